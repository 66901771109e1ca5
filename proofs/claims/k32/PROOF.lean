import PyProof.Rows.All
import Wide.All
import OpenK.AllK
import Wide.FinOn
import HandS.ForMost
import HandS.IsInst
import HandS.Codes
import HandS.Zip
import KE.GoesEnum
import KE.KDictZip
import KE.KItemsList
import HandS.OwnEq
import HandS.Style
import HandS.TupAny
import HandS.Strs
import HandS.Conv
import HandS.Star
import PyProof.SumWalkG
import HandS.Exc
import HandS.ExcOwn
import HandS.TryOnly
import HandS.WordsExc
import HandS.ExcField
import HandS.ExcIs
import HandS.ExcInit
import KE.KExcIs
import HandS.DictComp
import HandS.More
import PySem.Challenge.RW_vouchdoor_k32_questions_of_doors
set_option Elab.async false
set_option linter.all false
set_option maxRecDepth 100000
namespace My
open PySem PySem.Spec PyProof.Rows L2
section
variable {prog : Program} {w : World} {A : Around} {E : Value → Shared → Prop} {s : Shared}
/-- an iterator over a list (false) or a tuple (true) -/
def ItK (k : Bool) (h : Heap) (it l : Addr) (i : Nat) : Prop := match k with
  | true => h.IsTupleIter it l i
  | false => h.IsListIter it l i
def SeK (k : Bool) (h : Heap) (l : Addr) (its : Array Value) : Prop := match k with
  | true => h.IsTuple l its
  | false => h.IsList l its
abbrev StK (k : Bool) (it l : Addr) (its : Array Value) : Nat → Heap → Prop := fun i h => ItK k h it l i ∧ SeK k h l its
theorem drK (k : Bool) (hh : A.handled = none) {it l : Addr} (ne : l ≠ it) (its : Array Value) : Draws prog w A it [it, l] its.size (fun i v => its[i]? = some v) (StK k it l its) := by
  cases k with
  | true => exact Draws.tuple hh it l ne its
  | false => exact Draws.list hh it l ne its
def itO (k : Bool) (l : Addr) : Obj := match k with
  | true => { cls := .type "tuple_iterator", data := .fields #[.ref l, .int 0 0] }
  | false => { cls := .type "list_iterator", data := .fields #[.ref l, .int 0 0] }
theorem bgK (k : Bool) (l : Addr) (its : Array Value) : Begins (.ref l) (itO k l) fun h => SeK k h l its := by
  cases k with
  | true => exact begins_tuple l its
  | false => exact begins_list l its
theorem itK0 {k : Bool} {h : Heap} {it l : Addr} (e : h.get? it = some (itO k l)) : ItK k h it l 0 := by
  cases k with
  | true => exact ⟨_, e, rfl, rfl⟩
  | false => exact ⟨_, e, rfl, rfl⟩
theorem SeK.at {k : Bool} {h h' : Heap} {l : Addr} {its : Array Value} (x : SeK k h l its) (q : ∀ o, h.get? l = some o → h'.get? l = some o) : SeK k h' l its := by
  cases k with
  | true => exact Heap.IsTuple.at (show h.IsTuple l its from x) q
  | false => exact Heap.IsList.at (show h.IsList l its from x) q
theorem ItK.at {k : Bool} {h h' : Heap} {it l : Addr} {i : Nat} (x : ItK k h it l i) (q : ∀ o, h.get? it = some o → h'.get? it = some o) : ItK k h' it l i := by
  cases k with
  | true => exact Heap.IsTupleIter.at (show h.IsTupleIter it l i from x) q
  | false => exact Heap.IsListIter.at (show h.IsListIter it l i from x) q
theorem ItK.obj {k : Bool} {h : Heap} {it l : Addr} {i : Nat} (x : ItK k h it l i) : ∃ o, h.get? it = some o ∧ ∀ v, o.data ≠ .cell v := by
  cases k with
  | true =>
    obtain ⟨o, e, _, d⟩ := x
    exact ⟨o, e, fun v q => by rw [d] at q; cases q⟩
  | false =>
    obtain ⟨o, e, _, d⟩ := x
    exact ⟨o, e, fun v q => by rw [d] at q; cases q⟩
theorem SeK.lt {k : Bool} {h : Heap} {l : Addr} {its : Array Value} (x : SeK k h l its) : l < h.objs.size := by
  cases k with
  | true =>
    obtain ⟨o, e, _⟩ := x
    exact Heap.lt_size e
  | false =>
    obtain ⟨o, e, _⟩ := x
    exact Heap.lt_size e
theorem sepK {z TI TO i1 i2 a b : Addr} (D : ZipApart z TI TO i1 i2 a b) : ZipSep2 z TI TO i1 i2 [i1, a] [i2, b] where
  TIz := D.TIz
  TOz := D.TOz
  TITO := D.TITO
  TIi1 := D.TIi1
  mem1 := by simp
  zf1 := by simp [D.i1z.symm, D.l1z.symm]
  Tf1 := by simp [D.TOi1, D.l1TO.symm]
  TIi2 := D.TIi2
  mem2 := by simp
  zf2 := by simp [D.i2z.symm, D.l2z.symm]
  Tf2 := by simp [D.TOi2, D.l2TO.symm]
  sep1_2 := by simp [D.i12, D.l2i1.symm]
  sep2_1 := by simp [D.i12.symm, D.l1i2.symm]
end
def SqK (k : Bool) (K : PySem.W.Frag) (H : Hp) (a : Addr) (xs : List V) : Prop := match k with
  | true => SqT K H a xs
  | false => SqL K H a xs
section
variable {X : Cx} {pins : List (Addr × Obj)} {σ : L2.St} {H : Hp} {s : Shared}
theorem seqK {k : Bool} {a : Addr} {xs : List V} (I : Inv X pins σ H s) (h : SqK k X.K H a xs) : ∃ its : List Value, Vals xs its ∧ SeK k s.heap a its.toArray ∧ xs.length ≤ sizeLine := by
  cases k with
  | true =>
    obtain ⟨its, r, p, z⟩ := I.tuple h
    exact ⟨its, r, p, z⟩
  | false =>
    obtain ⟨its, r, p, z⟩ := I.list h
    exact ⟨its, r, p.isList, z⟩
theorem seqK_inj {k : Bool} {a : Addr} {xs ys : List V} (I : Inv X pins σ H s) (h : SqK k X.K H a xs) (h' : SqK k X.K H a ys) : xs = ys := by
  cases k with
  | true => exact I.tuple_inj h h'
  | false => exact I.list_inj h h'
end
theorem fresh5 {X : Cx} {pins : List (Addr × Obj)} {σ : L2.St} {H : Hp} {s : Shared} (I : Inv X pins σ H s) (c : Addr) (hc : c ∈ [s.heap.objs.size + 4, s.heap.objs.size + 2, s.heap.objs.size + 3, s.heap.objs.size, s.heap.objs.size + 1]) : FpOk X pins H c := by
  have le : s.heap.objs.size ≤ c := by
    simp only [List.mem_cons, List.not_mem_nil, or_false] at hc
    rcases hc with rfl | rfl | rfl | rfl | rfl
    · exact Nat.le_add_right _ _
    · exact Nat.le_add_right _ _
    · exact Nat.le_add_right _ _
    · exact Nat.le_refl _
    · exact Nat.le_add_right _ _
  exact I.fpOk le (I.hok.fresh le)
section
variable {prog : Program} {w : World} {A : Around} {E : Value → Shared → Prop} {s : Shared} {z TI TO T i1 i2 : Addr} {fp1 fp2 : List Addr} {n1 n2 i : Nat} {P1 P2 : Nat → Value → Prop} {St1 St2 : Nat → Heap → Prop} {f : Bool} {oT : Obj}
theorem zh_item {Q : Value → Shared → Prop} (S : ZipSep2 z TI TO i1 i2 fp1 fp2) (D1 : Draws prog w A i1 fp1 n1 P1 St1) (D2 : Draws prog w A i2 fp2 n2 P2 St2)
    (hz : IsZipHeld s.heap z TI TO T f) (hT : s.heap.get? T = some oT) (hTI : IsPair s.heap TI (.ref i1) (.ref i2)) (st1 : St1 i s.heap) (st2 : St2 i s.heap) (lt1 : i < n1) (lt2 : i < n2)
    (hQ : ∀ x y h' tk, P1 i x → P2 i y → IsZipHeld h' z TI TO T true → St1 (i + 1) h' → St2 (i + 1) h' → IsPair h' s.heap.objs.size x y → h'.objs.size = s.heap.objs.size + 1 →
      (∀ c o, c ≠ z → c ≠ i1 → c ≠ i2 → s.heap.get? c = some o → h'.get? c = some o) → Q (.ref s.heap.objs.size) { s with heap := h', toks := tk }) :
    wpAny (model prog w) A (Builtin.«zip.__next__» ⟨[.ref z], []⟩) (fun fin s' => ∃ v, fin = .done (.ret v) ∧ Q v s') E s := by
  obtain ⟨h0, g, d, tk0, os⟩ := s
  show wpAny _ _ (field (.ref z) 2 >>= fun _ => _) _ _ _; refine wpAny_bind (wpAny_field (x := .bool false) hz rfl rfl ?_)
  show wpAny _ _ (field (.ref z) 3 >>= fun _ => _) _ _ _; refine wpAny_bind (wpAny_field (x := .ref TI) hz rfl rfl ?_)
  refine wpAny_bind (wpAny_seqItems hTI rfl ?_); show wpAny _ _ (Builtin.SmallTypes.ownedTupleIsFree (.ref z) >>= fun _ => _) _ _ _
  refine wpAny_bind (wpAny_tupleHeld_zip hz hT fun ha za sa => ?_)
  simp only [Bool.false_eq_true, if_false]; refine wpAny_bind ?_
  rw [← Array.forIn_toList]; simp only [List.forIn_cons, List.forIn_nil]
  refine wpAny_bind (wpAny_bind (wpAny_holding ?_)); show wpAny _ _ (Builtin.SmallTypes.nextOf (.ref i1) >>= fun _ => _) _ _ _
  refine wpAny_bind (D1.item i ⟨ha, g, d, tk0, os⟩ _ _ lt1 (D1.over st1 sa S.zf1) fun x hb tkb px st1b sb => wpAny_pure ?_); refine wpAny_pure ?_
  refine wpAny_bind (wpAny_bind (wpAny_holding ?_)); show wpAny _ _ (Builtin.SmallTypes.nextOf (.ref i2) >>= fun _ => _) _ _ _
  refine wpAny_bind (D2.item i ⟨hb, g, d, tkb, os⟩ _ _ lt2 (D2.over (D2.over st2 sa S.zf2) sb S.sep1_2) fun y hc tkc py st2c sc => wpAny_pure ?_); refine wpAny_pure (wpAny_pure ?_)
  show wpAny _ _ (newTuple [x, y] >>= fun _ => _) _ _ _; refine wpAny_bind (wpAny_newTuple ?_)
  have hsz : hc.objs.size = h0.objs.size := by rw [sc.1, sb.1, sa.1]
  have zc : IsZipHeld hc z TI TO T true := sc.extBut _ _ S.zi2 (sb.extBut _ _ S.zi1 za)
  have up : ∀ c o, hc.get? c = some o → (hc.push { cls := .type "tuple", data := .seq #[x, y] }).get? c = some o := fun c o e => Heap.get?_push_of_some _ e
  refine wpAny_pure ⟨_, rfl, ?_⟩
  show Q (.ref hc.objs.size) _
  have hp : IsPair (hc.push { cls := .type "tuple", data := .seq #[x, y] }) hc.objs.size x y := Heap.get?_push_size _ rfl
  have h4 : (hc.push { cls := .type "tuple", data := .seq #[x, y] }).objs.size = hc.objs.size + 1 := Heap.size_push ..
  rw [hsz] at hp h4 ⊢
  exact hQ x y _ tkc px py (up _ _ zc) (D1.frame _ _ _ (D1.over st1b sc S.sep2_1) fun c _ o e => up c o e) (D2.frame _ _ _ st2c fun c _ o e => up c o e) hp h4 fun c o c1 c2 c3 e => up c o (sc.extBut _ _ c3 (sb.extBut _ _ c2 (sa.extBut _ _ c1 e)))
theorem zh_end {Q : Fin → Shared → Prop} (S : ZipSep2 z TI TO i1 i2 fp1 fp2) (D1 : Draws prog w A i1 fp1 n1 P1 St1) (D2 : Draws prog w A i2 fp2 n2 P2 St2)
    (hz : IsZipHeld s.heap z TI TO T f) (hT : s.heap.get? T = some oT) (hTI : IsPair s.heap TI (.ref i1) (.ref i2)) (st1 : St1 i s.heap) (st2 : St2 i s.heap) (le1 : i ≤ n1) (le2 : i ≤ n2) (he : i = n1 ∨ i = n2)
    (hE : ∀ h' tk e, (∀ c o, c ≠ z → c ≠ TO → c ≠ i1 → c ≠ i2 → s.heap.get? c = some o → h'.get? c = some o) → (∃ o, h'.get? e = some o ∧ o.cls = .type "StopIteration") → E (.ref e) { s with heap := h', toks := tk }) :
    wpAny (model prog w) A (Builtin.«zip.__next__» ⟨[.ref z], []⟩) Q E s := by
  obtain ⟨h0, g, d, tk0, os⟩ := s
  show wpAny _ _ (field (.ref z) 2 >>= fun _ => _) _ _ _; refine wpAny_bind (wpAny_field (x := .bool false) hz rfl rfl ?_)
  show wpAny _ _ (field (.ref z) 3 >>= fun _ => _) _ _ _; refine wpAny_bind (wpAny_field (x := .ref TI) hz rfl rfl ?_)
  refine wpAny_bind (wpAny_seqItems hTI rfl ?_); show wpAny _ _ (Builtin.SmallTypes.ownedTupleIsFree (.ref z) >>= fun _ => _) _ _ _
  refine wpAny_bind (wpAny_tupleHeld_zip hz hT fun ha za sa => ?_)
  simp only [Bool.false_eq_true, if_false]; refine wpAny_bind ?_
  rw [← Array.forIn_toList]; simp only [List.forIn_cons, List.forIn_nil]
  refine wpAny_bind (wpAny_bind (wpAny_holding ?_)); show wpAny _ _ (Builtin.SmallTypes.nextOf (.ref i1) >>= fun _ => _) _ _ _
  by_cases e1 : i = n1
  · subst e1
    refine wpAny_bind (D1.done ⟨ha, g, d, tk0, os⟩ _ _ (D1.over st1 sa S.zf1) fun hb e sb ex => ?_)
    exact hE hb tk0 e (fun c o c1 _ c2 _ x => sb _ _ c2 (sa.extBut _ _ c1 x)) ex
  · have e2 : i = n2 := he.resolve_left e1
    subst e2
    refine wpAny_bind (D1.item i ⟨ha, g, d, tk0, os⟩ _ _ (by omega) (D1.over st1 sa S.zf1) fun x hb tkb px st1b sb => wpAny_pure ?_); refine wpAny_pure ?_
    refine wpAny_bind (wpAny_bind (wpAny_holding ?_)); show wpAny _ _ (Builtin.SmallTypes.nextOf (.ref i2) >>= fun _ => _) _ _ _
    refine wpAny_bind (D2.done ⟨hb, g, d, tkb, os⟩ _ _ (D2.over (D2.over st2 sa S.zf2) sb S.sep1_2) fun hc e sc ex => ?_)
    exact hE hc tkb e (fun c o c1 _ c2 c3 x => sc _ _ c3 (sb.extBut _ _ c2 (sa.extBut _ _ c1 x))) ex
/-- a zip between two items, whatever it holds; S: the list that is made -/
def ZSt (z TI TO i1 i2 S : Addr) (St1 St2 : Nat → Heap → Prop) (h : Heap) (i : Nat) : Prop :=
  IsPair h TI (.ref i1) (.ref i2) ∧ St1 i h ∧ St2 i h ∧ ((IsZip h z TI TO .none ∧ ∃ x y, IsPair h TO x y) ∨ ∃ T f oT, IsZipHeld h z TI TO T f ∧ h.get? T = some oT ∧ T ≠ S)
theorem zs_item {S0 : Addr} {Q : Option Value → Shared → Prop} (S : ZipSep2 z TI TO i1 i2 fp1 fp2) (D1 : Draws prog w A.in1 i1 fp1 n1 P1 St1) (D2 : Draws prog w A.in1 i2 fp2 n2 P2 St2) (st : ZSt z TI TO i1 i2 S0 St1 St2 s.heap i) (lt1 : i < n1) (lt2 : i < n2) (hS : S0 < s.heap.objs.size)
    (hQ : ∀ x y h' tk, P1 i x → P2 i y → ZSt z TI TO i1 i2 S0 St1 St2 h' (i + 1) → IsPair h' s.heap.objs.size x y → h'.objs.size = s.heap.objs.size + 1 → (∀ c o, c ≠ z → c ≠ TO → c ≠ i1 → c ≠ i2 → s.heap.get? c = some o → h'.get? c = some o) → Q (some (.ref s.heap.objs.size)) { s with heap := h', toks := tk }) :
    wpAny (model prog w) A (pyNext (.ref z)) Q E s := by
  obtain ⟨hTI, s1, s2, hh⟩ := st
  rcases hh with ⟨hz, x0, y0, hTO⟩ | ⟨T, f, oT, hz, hT, nT⟩
  · refine wpAny_pyNext_zipD2_item S D1 D2 hz hTI hTO s1 s2 lt1 lt2 fun x y h' tk px py z1 t1 s1' s2' hp hsz hk => ?_
    exact hQ x y h' tk px py ⟨hk _ _ S.TIz S.TITO S.TIi1 S.TIi2 hTI, s1', s2', .inr ⟨_, false, _, z1, hp, Nat.ne_of_gt hS⟩⟩ hp hsz hk
  · have ty : s.TypeIs (.ref z) "zip" := ⟨_, hz, rfl⟩
    unfold pyNext
    refine wpAny_bind (wpAny_attempt (wpAny_callSpecial?_slot (name := Str.ofString "__next__") ty F.slot_zip_next (wpAny_call_entry F.slot_zip_next ty F.entry_zip_next (zh_item S D1 D2 hz hT hTI s1 s2 lt1 lt2 fun x y h' tk px py z1 s1' s2' hp hsz hk => wpAny_pure ?_) (F.args_zip_next_1 _))))
    have hk4 : ∀ c o, c ≠ z → c ≠ TO → c ≠ i1 → c ≠ i2 → s.heap.get? c = some o → h'.get? c = some o := fun c o c1 _ c2 c3 e => hk c o c1 c2 c3 e
    have hTI' := hk _ _ S.TIz S.TIi1 S.TIi2 hTI
    have : ∃ o, h'.get? T = some o := by
      by_cases q : T = z ∨ T = i1 ∨ T = i2
      · rcases q with q | q | q
        · rw [q]
          exact ⟨_, z1⟩
        · rw [q]
          exact D1.live _ _ s1'
        · rw [q]
          exact D2.live _ _ s2'
      · simp only [not_or] at q
        exact ⟨oT, hk _ _ q.1 q.2.1 q.2.2 hT⟩
    obtain ⟨o, ho⟩ := this
    exact hQ x y h' tk px py ⟨hTI', s1', s2', .inr ⟨T, true, o, z1, ho, nT⟩⟩ hp hsz hk4
theorem zs_end {S0 : Addr} {Q : Option Value → Shared → Prop} (S : ZipSep2 z TI TO i1 i2 fp1 fp2) (D1 : Draws prog w A.in1 i1 fp1 n1 P1 St1) (D2 : Draws prog w A.in1 i2 fp2 n2 P2 St2) (st : ZSt z TI TO i1 i2 S0 St1 St2 s.heap i) (le1 : i ≤ n1) (le2 : i ≤ n2) (he : i = n1 ∨ i = n2)
    (hQ : ∀ h' tk, (∀ c o, c ≠ z → c ≠ TO → c ≠ i1 → c ≠ i2 → s.heap.get? c = some o → h'.get? c = some o) → Q none { s with heap := h', toks := tk }) : wpAny (model prog w) A (pyNext (.ref z)) Q E s := by
  obtain ⟨hTI, s1, s2, hh⟩ := st
  rcases hh with ⟨hz, x0, y0, hTO⟩ | ⟨T, f, oT, hz, hT, nT⟩
  · exact wpAny_pyNext_zipD2_end S D1 D2 hz hTI hTO s1 s2 le1 le2 he hQ
  · have ty : s.TypeIs (.ref z) "zip" := ⟨_, hz, rfl⟩
    unfold pyNext
    refine wpAny_bind (wpAny_attempt (wpAny_callSpecial?_slot (name := Str.ofString "__next__") ty F.slot_zip_next (wpAny_call_entry F.slot_zip_next ty F.entry_zip_next (zh_end S D1 D2 hz hT hTI s1 s2 le1 le2 he fun h' tk e hk ex => ?_) (F.args_zip_next_1 _))))
    obtain ⟨o, ho, hc⟩ := ex
    refine wpAny_bind (wpAny_isInstance (T := "StopIteration") (b := true) ⟨o, ho, hc⟩ isSubtype_stop ?_)
    exact wpAny_pure (hQ _ _ hk)
theorem ZSt.over {S0 : Addr} {h h' : Heap} (D1 : Draws prog w A i1 fp1 n1 P1 St1) (D2 : Draws prog w A i2 fp2 n2 P2 St2) (st : ZSt z TI TO i1 i2 S0 St1 St2 h i) (nS : S0 ≠ z ∧ S0 ≠ TI ∧ S0 ≠ TO ∧ S0 ∉ fp1 ∧ S0 ∉ fp2) (k : ∀ b o, b ≠ S0 → h.get? b = some o → h'.get? b = some o) : ZSt z TI TO i1 i2 S0 St1 St2 h' i := by
  obtain ⟨hTI, s1, s2, hh⟩ := st
  obtain ⟨n1, n2, n3, n4, n5⟩ := nS
  refine ⟨k _ _ n2.symm hTI, D1.frame _ _ _ s1 fun b hb o e => k b o (fun q => n4 (q ▸ hb)) e, D2.frame _ _ _ s2 fun b hb o e => k b o (fun q => n5 (q ▸ hb)) e, ?_⟩
  rcases hh with ⟨hz, x0, y0, hTO⟩ | ⟨T, f, oT, hz, hT, nT⟩
  · exact .inl ⟨k _ _ n1.symm hz, x0, y0, k _ _ n3.symm hTO⟩
  · exact .inr ⟨T, f, oT, k _ _ n1.symm hz, k _ _ nT hT, nT⟩
/-- the tuples made so far: above lo, in ascending order, of the items' pairs -/
structure ZlG (us vs : Array Value) (lo : Addr) (h : Heap) (as : List Addr) : Prop where
  rise : as.Pairwise (· < ·)
  above : ∀ a ∈ as, lo < a
  pairs : ∀ (j : Nat) (a : Addr), as[j]? = some a → ∃ x y, us[j]? = some x ∧ vs[j]? = some y ∧ IsPair h a x y
theorem zip_nolen : typeLookup (.type "zip") "__len__" = pure none := by rw [typeLookup_type, builtinLookup_eq_fast]; kernel_rfl
theorem zip_nohint : typeLookup (.type "zip") "__length_hint__" = pure none := by rw [typeLookup_type, builtinLookup_eq_fast]; kernel_rfl
theorem zl_loop {R : Result → Shared → Prop} {S0 : Addr} {us vs : Array Value} {h1 : Heap} {res : Value} {Sa Sb : Nat → Heap → Prop} (S : ZipSep2 z TI TO i1 i2 fp1 fp2) (D1 : Draws prog w A.in1.in1 i1 fp1 us.size (fun i v => us[i]? = some v) Sa) (D2 : Draws prog w A.in1.in1 i2 fp2 vs.size (fun i v => vs[i]? = some v) Sb)
    (lo : Addr) (nS : S0 ≠ z ∧ S0 ≠ TI ∧ S0 ≠ TO ∧ S0 ∉ fp1 ∧ S0 ∉ fp2) (hlo : S0 ≤ lo ∧ z ≤ lo ∧ TO ≤ lo ∧ i1 ≤ lo ∧ i2 ≤ lo) (hn : min us.size vs.size ≤ sizeLine)
    (hR : ∀ h' tk acc c as, (∀ b o, b ≠ S0 → b ≠ z → b ≠ TO → b ≠ i1 → b ≠ i2 → h1.get? b = some o → h'.get? b = some o) → h'.get? S0 = some { cls := .type "list", dict := none, data := .seq acc c, slots := #[] } → as.length = min us.size vs.size → ZlG us vs lo h' as →
      acc.toList = as.map Value.ref → R (.ok (.ret res)) { s with heap := h', toks := tk }) :
    ∀ (k i : Nat) (h : Heap) (tk c : Nat) (acc : Array Value) (as : List Addr), k + i = min us.size vs.size → ZSt z TI TO i1 i2 S0 Sa Sb h i → (∀ b o, b ≠ S0 → b ≠ z → b ≠ TO → b ≠ i1 → b ≠ i2 → h1.get? b = some o → h.get? b = some o) →
      h.get? S0 = some { cls := .type "list", dict := none, data := .seq acc c, slots := #[] } → acc.toList = as.map Value.ref → as.length = i → ZlG us vs lo h as → lo < h.objs.size →
      codeAny (model prog w) A (.builtin "list.extend.loop" ⟨[.ref S0, .ref z, res], []⟩) R { s with heap := h, toks := tk } := by
  have off : ∀ a, lo < a → a ≠ S0 ∧ a ≠ z ∧ a ≠ TO ∧ a ≠ i1 ∧ a ≠ i2 := fun a ha => ⟨Nat.ne_of_gt (Nat.lt_of_le_of_lt hlo.1 ha), Nat.ne_of_gt (Nat.lt_of_le_of_lt hlo.2.1 ha), Nat.ne_of_gt (Nat.lt_of_le_of_lt hlo.2.2.1 ha), Nat.ne_of_gt (Nat.lt_of_le_of_lt hlo.2.2.2.1 ha), Nat.ne_of_gt (Nat.lt_of_le_of_lt hlo.2.2.2.2 ha)⟩
  have nI1 : S0 ≠ i1 := fun e => nS.2.2.2.1 (e ▸ S.mem1)
  have nI2 : S0 ≠ i2 := fun e => nS.2.2.2.2 (e ▸ S.mem2)
  intro k
  induction k with
  | zero =>
    intro i h tk c acc as hk st hkeep hS hacc hal hG hlt
    refine codeAny_builtin PySem.F.entry_extend_loop ?_
    rw [Around.under_plainId PySem.F.plain_extend_loop _]; show wpAny _ A.in1 (pyNext (.ref z) >>= fun _ => _) _ _ _
    refine wpAny_bind (zs_end (s := { s with heap := h, toks := tk }) (A := A.in1) S D1 D2 st (by omega) (by omega) (by omega) fun h' tk' he => ?_)
    refine wpAny_pure (hR h' tk' acc c as (fun b o b1 b2 b3 b4 b5 e => he b o b2 b3 b4 b5 (hkeep b o b1 b2 b3 b4 b5 e)) (he S0 _ nS.1 nS.2.2.1 nI1 nI2 hS) (by omega) ⟨hG.rise, hG.above, fun j a hj => ?_⟩ hacc)
    obtain ⟨x, y, e1, e2, e3⟩ := hG.pairs j a hj
    obtain ⟨_, o2, o3, o4, o5⟩ := off a (hG.above a (List.mem_of_getElem? hj))
    exact ⟨x, y, e1, e2, he a _ o2 o3 o4 o5 e3⟩
  | succ k ih =>
    intro i h tk c acc as hk st hkeep hS hacc hal hG hlt
    have hsz : acc.size = i := by rw [← Array.length_toList, hacc, List.length_map, hal]
    have hSl : S0 < h.objs.size := Heap.lt_size hS
    refine codeAny_builtin PySem.F.entry_extend_loop ?_
    rw [Around.under_plainId PySem.F.plain_extend_loop _]; show wpAny _ A.in1 (pyNext (.ref z) >>= fun _ => _) _ _ _
    refine wpAny_bind (zs_item (s := { s with heap := h, toks := tk }) (A := A.in1) S D1 D2 st (by omega) (by omega) hSl fun x y h' tk' px py st' hp hz' hkp => ?_)
    dsimp only at px py hp hz' hkp ⊢
    have hS' := hkp S0 _ nS.1 nS.2.2.1 nI1 nI2 hS
    have up : ∀ b o, b ≠ S0 → h'.get? b = some o → (h'.update S0 (Obj.mapSeq (·.push (Value.ref h.objs.size)))).get? b = some o := fun b o hb e => (Heap.get?_update_other _ _ (Ne.symm hb)).trans e
    have newNe : h.objs.size ≠ S0 := Nat.ne_of_gt hSl
    show wpAny _ A.in1 (updateSeq S0 (·.push (Value.ref h.objs.size)) >>= fun _ => _) _ _ _; refine wpAny_bind ?_
    refine wpAny_updateSeq hS' rfl (wpAny_pure ⟨plainId_quiet PySem.F.plain_extend_loop _, ih (i + 1) _ tk' _ (acc.push (Value.ref h.objs.size)) (as ++ [h.objs.size]) (by omega) (ZSt.over D1 D2 st' nS up)
      (fun b o b1 b2 b3 b4 b5 e => up b o b1 (hkp b o b2 b3 b4 b5 (hkeep b o b1 b2 b3 b4 b5 e))) (Heap.get?_update_self _ hS' rfl) (by rw [Array.toList_push, hacc, List.map_append]; rfl) (by rw [List.length_append, hal]; rfl) ⟨?_, ?_, ?_⟩ ?_⟩) (by rw [hsz]; omega) (by show (acc.push (Value.ref h.objs.size)).size ≤ sizeLine + 1; rw [Array.size_push, hsz]; omega)
    · refine List.pairwise_append.mpr ⟨hG.rise, List.pairwise_singleton _ _, fun a ha b hb => ?_⟩
      rw [List.mem_singleton.mp hb]
      obtain ⟨j, hj⟩ := List.mem_iff_getElem?.mp ha
      obtain ⟨_, _, _, _, e⟩ := hG.pairs j a hj
      exact Heap.lt_size e
    · intro a ha
      rcases List.mem_append.mp ha with ha | ha
      · exact hG.above a ha
      · rw [List.mem_singleton.mp ha]
        exact hlt
    · intro j b hj
      by_cases h1 : j < as.length
      · rw [List.getElem?_append_left h1] at hj
        obtain ⟨x', y', e1, e2, e3⟩ := hG.pairs j b hj
        obtain ⟨o1, o2, o3, o4, o5⟩ := off b (hG.above b (List.mem_of_getElem? hj))
        exact ⟨x', y', e1, e2, up b _ o1 (hkp b _ o2 o3 o4 o5 e3)⟩
      · by_cases h2 : j = as.length
        · subst h2
          have hb : h.objs.size = b := by simpa using hj
          subst hb
          rw [hal]
          exact ⟨x, y, px, py, up _ _ newNe hp⟩
        · rw [List.getElem?_eq_none (by rw [List.length_append, List.length_singleton]; omega)] at hj
          cases hj
    · have e : (h'.update S0 (Obj.mapSeq (·.push (Value.ref h.objs.size)))).get? h.objs.size = _ := up _ _ newNe hp
      exact Nat.lt_trans hlt (Heap.lt_size e)
theorem zl_extend {R : Result → Shared → Prop} {S0 : Addr} {us vs : Array Value} {res : Value} {c0 : Nat} {Sa Sb : Nat → Heap → Prop} (S : ZipSep2 z TI TO i1 i2 fp1 fp2) (D1 : Draws prog w A.in1.in1 i1 fp1 us.size (fun i v => us[i]? = some v) Sa) (D2 : Draws prog w A.in1.in1 i2 fp2 vs.size (fun i v => vs[i]? = some v) Sb)
    (nS : S0 ≠ z ∧ S0 ≠ TI ∧ S0 ≠ TO ∧ S0 ∉ fp1 ∧ S0 ∉ fp2) (hlo : z ≤ S0 ∧ TO ≤ S0 ∧ i1 ≤ S0 ∧ i2 ≤ S0) (hn : min us.size vs.size ≤ sizeLine) (ty : s.TypeIs (.ref z) "zip") (hz : IsZip s.heap z TI TO .none)
    (st : ZSt z TI TO i1 i2 S0 Sa Sb s.heap 0) (hS : s.heap.get? S0 = some { cls := .type "list", data := .seq #[] c0 }) (hlt : S0 < s.heap.objs.size)
    (hR : ∀ h' tk acc c as, (∀ b o, b ≠ S0 → b ≠ z → b ≠ TO → b ≠ i1 → b ≠ i2 → s.heap.get? b = some o → h'.get? b = some o) → h'.get? S0 = some { cls := .type "list", dict := none, data := .seq acc c, slots := #[] } → as.length = min us.size vs.size → ZlG us vs S0 h' as →
      acc.toList = as.map Value.ref → R (.ok (.ret res)) { s with heap := h', toks := tk }) :
    wpAny (model prog w) A.in1 (Builtin.List.listExtendWith (.ref S0) (.ref z) res)
      (fun fin s' => match fin with | .done f => R (.ok f) s' | .again c' => c'.quiet = true ∧ codeAny (model prog w) A c' R s') (fun e s' => R (.error e) s') s := by
  have e1 : Builtin.List.listSameRef (.ref S0) (.ref z) = false := by simp [Builtin.List.listSameRef, nS.1]
  have e2 : (Value.type "zip" == Value.type "list") = false := by decide
  have e3 : (Value.type "zip" == Value.type "tuple") = false := by decide
  unfold Builtin.List.listExtendWith; refine wpAny_bind (wpAny_typeOf ty ?_)
  simp only [e1, e2, e3, Bool.or_false, Bool.false_eq_true, if_false]; refine wpAny_bind (wpAny_pyIter_zip hz ?_)
  refine wpAny_bind (wpAny_holding ?_); unfold Builtin.List.listLengthHint
  refine wpAny_bind (wpAny_specialOf ty zip_nolen ?_); show wpAny _ A.in1 (specialOf (Value.ref z) (Str.ofString "__length_hint__") >>= fun _ => _) _ _ _
  refine wpAny_bind (wpAny_specialOf ty zip_nohint ?_); refine wpAny_pure ?_
  show wpAny _ A.in1 (rule "list.extend.makes-room" >>= fun _ => Builtin.List.listTouch (.ref S0) >>= fun _ => again (.builtin "list.extend.loop" ⟨[.ref S0, .ref z, res], []⟩)) _ _ _
  refine wpAny_bind (wpAny_rule ?_); refine wpAny_bind ?_
  show wpAny _ A.in1 (updateSeq S0 (·.push .none) >>= fun _ => updateSeq S0 (·.pop)) _ _ _; refine wpAny_bind (wpAny_updateSeq hS rfl ?_)
  have g2 := Heap.get?_update_self (Obj.mapSeq (·.push Value.none)) hS rfl
  refine wpAny_updateSeq (hz := by seq_fits) g2 rfl ?_
  have g3 := Heap.get?_update_self (Obj.mapSeq (·.pop)) g2 rfl
  have oth : ∀ b o, b ≠ S0 → s.heap.get? b = some o → ((s.heap.update S0 (Obj.mapSeq (·.push Value.none))).update S0 (Obj.mapSeq (·.pop))).get? b = some o := fun b o hb e => (Heap.get?_update_other _ _ (Ne.symm hb)).trans ((Heap.get?_update_other _ _ (Ne.symm hb)).trans e)
  refine wpAny_pure ⟨plainId_quiet PySem.F.plain_extend_loop _, zl_loop (h1 := s.heap) S D1 D2 S0 nS ⟨Nat.le_refl _, hlo⟩ hn hR (min us.size vs.size) 0 _ _ _ #[] [] rfl (ZSt.over D1 D2 st nS oth) (fun b o hb _ _ _ _ e => oth b o hb e) g3 rfl rfl ⟨List.Pairwise.nil, (fun _ ha => nomatch ha), fun j a hj => by simp at hj⟩ ?_⟩
  exact Heap.lt_size g3
/-- list(z): z a zip that was just made -/
theorem zl_call {Q : Value → Shared → Prop} {us vs : Array Value} {Sa Sb : Nat → Heap → Prop} (S : ZipSep2 z TI TO i1 i2 fp1 fp2) (D1 : Draws prog w A.in1.in1.in1 i1 fp1 us.size (fun i v => us[i]? = some v) Sa) (D2 : Draws prog w A.in1.in1.in1 i2 fp2 vs.size (fun i v => vs[i]? = some v) Sb)
    (hn : min us.size vs.size ≤ sizeLine) (hz : IsZip s.heap z TI TO .none) (hTI : IsPair s.heap TI (.ref i1) (.ref i2)) (hTO : ∃ x y, IsPair s.heap TO x y) (s1 : Sa 0 s.heap) (s2 : Sb 0 s.heap) (f1 : ∀ b ∈ fp1, b < s.heap.objs.size) (f2 : ∀ b ∈ fp2, b < s.heap.objs.size)
    (hQ : ∀ h' tk acc c as, (∀ b o, b ≠ z → b ≠ TO → b ≠ i1 → b ≠ i2 → s.heap.get? b = some o → h'.get? b = some o) → h'.get? s.heap.objs.size = some { cls := .type "list", dict := none, data := .seq acc c, slots := #[] } → as.length = min us.size vs.size → ZlG us vs s.heap.objs.size h' as →
      acc.toList = as.map Value.ref → Q (.ref s.heap.objs.size) { s with heap := h', toks := tk }) :
    wpAny (model prog w) A (call (.type "list") [.ref z]) Q E s := by
  obtain ⟨x0, y0, hTO⟩ := hTO
  obtain ⟨h0, g, d, tk0, os⟩ := s
  have lz : z < h0.objs.size := Heap.lt_size hz
  have lTI : TI < h0.objs.size := Heap.lt_size hTI
  have lTO : TO < h0.objs.size := Heap.lt_size hTO
  have li1 := f1 i1 S.mem1
  have li2 := f2 i2 S.mem2
  have nS : h0.objs.size ≠ z ∧ h0.objs.size ≠ TI ∧ h0.objs.size ≠ TO ∧ h0.objs.size ∉ fp1 ∧ h0.objs.size ∉ fp2 := ⟨Nat.ne_of_gt lz, Nat.ne_of_gt lTI, Nat.ne_of_gt lTO, fun q => Nat.lt_irrefl _ (f1 _ q), fun q => Nat.lt_irrefl _ (f2 _ q)⟩
  refine callType_codes (Q₁ := fun obj t => obj = .ref h0.objs.size ∧ t = ⟨h0.push { cls := .type "list", data := .seq #[] }, g, d, tk0, os⟩) F.called_list (F.typeCall_list_1 _) F.entry_list_init (code_list_new _ ⟨rfl, rfl⟩) fun obj t ht => ?_
  obtain ⟨rfl, rfl⟩ := ht
  have gS : (h0.push { cls := .type "list", data := .seq #[] }).get? h0.objs.size = some { cls := .type "list", data := .seq #[] } := Heap.get?_push_size _ rfl
  have up : ∀ b o, h0.get? b = some o → (h0.push { cls := .type "list", data := .seq #[] }).get? b = some o := fun b o e => Heap.get?_push_of_some _ e
  refine ⟨⟨_, gS, rfl⟩, F.args_list_init_2 _ _, ?_⟩
  show wpAny _ _ (do let old ← Builtin.List.listItems (.ref h0.objs.size); Builtin.List.listUpdate (.ref h0.objs.size) (fun _ => #[]); letGo old.toList.reverse; Builtin.List.listExtendWith (.ref h0.objs.size) (.ref z) .none) _ _ _
  refine wpAny_bind ?_; unfold Builtin.List.listItems
  refine wpAny_bind (wpAny_seqItems gS rfl (wpAny_pure ?_))
  show wpAny _ _ (updateSeq h0.objs.size (fun _ => #[]) >>= fun _ => letGo (#[] : Array Value).toList.reverse >>= fun _ => Builtin.List.listExtendWith (.ref h0.objs.size) (.ref z) .none) _ _ _
  refine wpAny_bind (wpAny_updateSeq gS rfl ?_)
  have g2 := Heap.get?_update_self (Obj.mapSeq (fun _ => (#[] : Array Value))) gS rfl
  have oth : ∀ b o, b ≠ h0.objs.size → h0.get? b = some o → ((h0.push { cls := .type "list", data := .seq #[] }).update h0.objs.size (Obj.mapSeq (fun _ => (#[] : Array Value)))).get? b = some o := fun b o hb e => (Heap.get?_update_other _ _ (Ne.symm hb)).trans (up b o e)
  have low : ∀ b o, h0.get? b = some o → b ≠ h0.objs.size := fun b o e => Nat.ne_of_lt (Heap.lt_size e)
  have zs : ZSt z TI TO i1 i2 h0.objs.size Sa Sb h0 0 := ⟨hTI, s1, s2, .inl ⟨hz, x0, y0, hTO⟩⟩
  have z2 := oth _ _ (Nat.ne_of_lt lz) hz
  refine wpAny_bind (wpAny_letGo ?_)
  refine zl_extend (A := A.in1) S D1 D2 nS ⟨Nat.le_of_lt lz, Nat.le_of_lt lTO, Nat.le_of_lt li1, Nat.le_of_lt li2⟩ hn ⟨_, z2, rfl⟩ z2 (ZSt.over D1 D2 zs nS oth) g2 (Heap.lt_size g2) fun h' tk acc c as hk hS' hl hG hacc => ?_
  exact ⟨rfl, hQ h' tk acc c as (fun b o b2 b3 b4 b5 e => hk b o (low b o e) b2 b3 b4 b5 (oth b o (low b o e) e)) hS' hl hG hacc⟩
end
theorem paired_at {α β : Type} {F : α → β → Prop} : ∀ {xs : List α} {ys : List β}, Paired F xs ys → ∀ {i : Nat} {x : α}, xs[i]? = some x → ∃ y, ys[i]? = some y ∧ F x y
  | _, _, .nil, i, x, h => by cases h
  | _, _, .cons r t, 0, x, h => by
    cases h
    exact ⟨_, rfl, r⟩
  | _, _, .cons r t, i + 1, x, h => paired_at (i := i) t h
theorem vals_of_refs : ∀ as : List Addr, Vals (as.map V.ref) (as.map Value.ref)
  | [] => .nil
  | _ :: as => .cons rfl (vals_of_refs as)
theorem pow_emod (a m : Int) : ∀ n : Nat, (a % m) ^ n % m = a ^ n % m
  | 0 => by rw [Int.pow_zero, Int.pow_zero]
  | n + 1 => by
    rw [Int.pow_succ, Int.pow_succ, Int.mul_emod, pow_emod a m n, Int.emod_emod, ← Int.mul_emod]
theorem mul_emod_l (a b m : Int) : (a % m) * b % m = a * b % m := by
  rw [Int.mul_emod, Int.emod_emod, ← Int.mul_emod]
theorem mul_emod_r (a b m : Int) : a * (b % m) % m = a * b % m := by
  rw [Int.mul_emod, Int.emod_emod, ← Int.mul_emod]
theorem emod_bd {a m : Int} (h : 0 < m) : 0 ≤ a % m ∧ a % m < m := ⟨Int.emod_nonneg _ (by omega), Int.emod_lt_of_pos _ h⟩
theorem sq_pow (s : Int) : ∀ k : Nat, (s * s) ^ k = s ^ (2 * k)
  | 0 => by rw [Int.pow_zero, Int.pow_zero]
  | k + 1 => by
    rw [Int.pow_succ, sq_pow s k, show 2 * (k + 1) = 2 * k + 1 + 1 by omega, Int.pow_succ, Int.pow_succ, Int.mul_assoc]
theorem power_odd {r s m t : Int} {n : Nat} (h : r * s ^ n % m = t % m) (o : n % 2 = 1) : (r * s % m) * (s * s % m) ^ (n / 2) % m = t % m := by
  rw [mul_emod_l, ← mul_emod_r, pow_emod, mul_emod_r, sq_pow, Int.mul_assoc, ← h]
  congr 1
  rw [show n = 2 * (n / 2) + 1 by omega, show 2 * ((2 * (n / 2) + 1) / 2) = 2 * (n / 2) by omega, Int.pow_succ, Int.mul_comm s]
theorem power_even {r s m t : Int} {n : Nat} (h : r * s ^ n % m = t % m) (o : ¬ n % 2 = 1) : r * (s * s % m) ^ (n / 2) % m = t % m := by
  rw [← mul_emod_r, pow_emod, mul_emod_r, sq_pow, ← h]
  congr 2
  rw [show 2 * (n / 2) = n by omega]
theorem iteD {p A B : Prop} [Decidable p] (h1 : p → A) (h2 : ¬ p → B) : if decide p = true then A else B := by
  by_cases h : p
  · rw [if_pos (decide_eq_true h)]
    exact h1 h
  · rw [if_neg (by rw [decide_eq_false h]; exact Bool.false_ne_true)]
    exact h2 h
theorem kit_NoneType_tuple {K : PySem.W.Frag} : PySem.W.kitOne K (.type "NoneType") (.type "tuple") = some false := kit_ty (by decide +kernel)
theorem kit_NoneType_list {K : PySem.W.Frag} : PySem.W.kitOne K (.type "NoneType") (.type "list") = some false := kit_ty (by decide +kernel)
theorem kit_NoneType_bool {K : PySem.W.Frag} : PySem.W.kitOne K (.type "NoneType") (.type "bool") = some false := kit_ty (by decide +kernel)
theorem kit_NoneType_int {K : PySem.W.Frag} : PySem.W.kitOne K (.type "NoneType") (.type "int") = some false := kit_ty (by decide +kernel)
theorem kit_NoneType_str {K : PySem.W.Frag} : PySem.W.kitOne K (.type "NoneType") (.type "str") = some false := kit_ty (by decide +kernel)
theorem kit_bool_tuple {K : PySem.W.Frag} : PySem.W.kitOne K (.type "bool") (.type "tuple") = some false := kit_ty (by decide +kernel)
theorem kit_bool_list {K : PySem.W.Frag} : PySem.W.kitOne K (.type "bool") (.type "list") = some false := kit_ty (by decide +kernel)
theorem kit_bool_bool {K : PySem.W.Frag} : PySem.W.kitOne K (.type "bool") (.type "bool") = some true := kit_ty (by decide +kernel)
theorem kit_bool_int {K : PySem.W.Frag} : PySem.W.kitOne K (.type "bool") (.type "int") = some true := kit_ty (by decide +kernel)
theorem kit_bool_str {K : PySem.W.Frag} : PySem.W.kitOne K (.type "bool") (.type "str") = some false := kit_ty (by decide +kernel)
theorem kit_int_tuple {K : PySem.W.Frag} : PySem.W.kitOne K (.type "int") (.type "tuple") = some false := kit_ty (by decide +kernel)
theorem kit_int_list {K : PySem.W.Frag} : PySem.W.kitOne K (.type "int") (.type "list") = some false := kit_ty (by decide +kernel)
theorem kit_int_bool {K : PySem.W.Frag} : PySem.W.kitOne K (.type "int") (.type "bool") = some false := kit_ty (by decide +kernel)
theorem kit_int_int {K : PySem.W.Frag} : PySem.W.kitOne K (.type "int") (.type "int") = some true := kit_ty (by decide +kernel)
theorem kit_int_str {K : PySem.W.Frag} : PySem.W.kitOne K (.type "int") (.type "str") = some false := kit_ty (by decide +kernel)
theorem kit_str_tuple {K : PySem.W.Frag} : PySem.W.kitOne K (.type "str") (.type "tuple") = some false := kit_ty (by decide +kernel)
theorem kit_str_list {K : PySem.W.Frag} : PySem.W.kitOne K (.type "str") (.type "list") = some false := kit_ty (by decide +kernel)
theorem kit_str_bool {K : PySem.W.Frag} : PySem.W.kitOne K (.type "str") (.type "bool") = some false := kit_ty (by decide +kernel)
theorem kit_str_int {K : PySem.W.Frag} : PySem.W.kitOne K (.type "str") (.type "int") = some false := kit_ty (by decide +kernel)
theorem kit_str_str {K : PySem.W.Frag} : PySem.W.kitOne K (.type "str") (.type "str") = some true := kit_ty (by decide +kernel)
theorem kit_list_tuple {K : PySem.W.Frag} : PySem.W.kitOne K (.type "list") (.type "tuple") = some false := kit_ty (by decide +kernel)
theorem kit_list_list {K : PySem.W.Frag} : PySem.W.kitOne K (.type "list") (.type "list") = some true := kit_ty (by decide +kernel)
theorem kit_list_bool {K : PySem.W.Frag} : PySem.W.kitOne K (.type "list") (.type "bool") = some false := kit_ty (by decide +kernel)
theorem kit_list_int {K : PySem.W.Frag} : PySem.W.kitOne K (.type "list") (.type "int") = some false := kit_ty (by decide +kernel)
theorem kit_list_str {K : PySem.W.Frag} : PySem.W.kitOne K (.type "list") (.type "str") = some false := kit_ty (by decide +kernel)
theorem kit_tuple_tuple {K : PySem.W.Frag} : PySem.W.kitOne K (.type "tuple") (.type "tuple") = some true := kit_ty (by decide +kernel)
theorem kit_tuple_list {K : PySem.W.Frag} : PySem.W.kitOne K (.type "tuple") (.type "list") = some false := kit_ty (by decide +kernel)
theorem kit_tuple_bool {K : PySem.W.Frag} : PySem.W.kitOne K (.type "tuple") (.type "bool") = some false := kit_ty (by decide +kernel)
theorem kit_tuple_int {K : PySem.W.Frag} : PySem.W.kitOne K (.type "tuple") (.type "int") = some false := kit_ty (by decide +kernel)
theorem kit_tuple_str {K : PySem.W.Frag} : PySem.W.kitOne K (.type "tuple") (.type "str") = some false := kit_ty (by decide +kernel)
theorem iteCT {c : Bool} {A B : Prop} (hc : c = true) (h : A) : if c = true then A else B := by
  rw [if_pos hc]
  exact h
theorem iteCF {c : Bool} {A B : Prop} (hc : c = false) (h : B) : if c = true then A else B := by
  rw [if_neg (by rw [hc]; exact Bool.false_ne_true)]
  exact h
theorem propOnly {p : Prop} (h : p) : p := h
/-- where the walk is to stop: between two turns of a loop -/
inductive At (p : Prop) : Prop where
  | of (h : p)
  | also (h : p)
theorem At.out {p : Prop} : At p → p
  | .of h => h
  | .also h => h
theorem len_size {n : Nat} (h : n ≤ 100000) : n < sizeLine := Nat.lt_of_le_of_lt h (by decide)
theorem same_new {H : Hp} {p : Addr} {o : HO} (h : H p = none) : Same H (upd H p o) := fun b x e => by
  rw [upd_ne (ne_of_none e h)]
  exact e
/-- the list of a pool, by its look: a reference, then an int -/
def poolV : List V → Bool
  | .ref _ :: .int _ :: _ => true
  | _ => false
def poolO : HO → Bool
  | .lst xs => poolV xs
  | _ => false
/-- all that was tracked is as it was, but for pools -/
def Keep (H H' : Hp) : Prop := ∀ b o, H b = some o → poolO o = false → H' b = some o
theorem Keep.refl (H : Hp) : Keep H H := fun _ _ h _ => h
theorem Keep.trans {H H1 H2 : Hp} (a : Keep H H1) (b : Keep H1 H2) : Keep H H2 := fun c o h p => b c o (a c o h p) p
mutual
inductive Rp (H : Hp) : V → PyData → Prop
  | non : Rp H .non .none
  | bl (b : Bool) : Rp H (.bl b) (.bool b)
  | int (i : Int) : Rp H (.int i) (.int i)
  | str (x : Str) : Rp H (.str x) (.str x)
  | lst {a : Addr} {xs : List V} {ds : List PyData} : H a = some (.lst xs) → poolV xs = false → RpAll H xs ds → Rp H (.ref a) (.list ds)
  | tup {a : Addr} {xs : List V} {ds : List PyData} : H a = some (.tup xs) → RpAll H xs ds → Rp H (.ref a) (.tuple ds)
inductive RpAll (H : Hp) : List V → List PyData → Prop
  | nil : RpAll H [] []
  | cons {v : V} {vs : List V} {d : PyData} {ds : List PyData} : Rp H v d → RpAll H vs ds → RpAll H (v :: vs) (d :: ds)
end
mutual
theorem Rp.keep {H H' : Hp} (k : Keep H H') : ∀ {v : V} {d : PyData}, Rp H v d → Rp H' v d
  | _, _, .non => .non
  | _, _, .bl b => .bl b
  | _, _, .int i => .int i
  | _, _, .str x => .str x
  | _, _, .lst h p r => .lst (k _ _ h p) p (RpAll.keep k r)
  | _, _, .tup h r => .tup (k _ _ h rfl) (RpAll.keep k r)
theorem RpAll.keep {H H' : Hp} (k : Keep H H') : ∀ {vs : List V} {ds : List PyData}, RpAll H vs ds → RpAll H' vs ds
  | _, _, .nil => .nil
  | _, _, .cons a r => .cons (Rp.keep k a) (RpAll.keep k r)
end
theorem RpAll.length {H : Hp} : ∀ {vs : List V} {ds : List PyData}, RpAll H vs ds → vs.length = ds.length
  | _, _, .nil => rfl
  | _, _, .cons _ r => congrArg (· + 1) (RpAll.length r)
theorem RpAll.get {H : Hp} : ∀ {vs : List V} {ds : List PyData} {i : Nat} {d : PyData}, RpAll H vs ds → ds[i]? = some d → ∃ v, vs[i]? = some v ∧ Rp H v d
  | _, _, _, _, .nil, e => by simp at e
  | _, _, 0, _, .cons a _, e => by
    simp only [List.getElem?_cons_zero, Option.some.injEq] at e
    subst e
    exact ⟨_, rfl, a⟩
  | _, _, i + 1, _, .cons _ r, e => by
    simp only [List.getElem?_cons_succ] at e
    obtain ⟨v, h1, h2⟩ := RpAll.get (i := i) r e
    exact ⟨v, h1, h2⟩
theorem RpAll.getV {H : Hp} : ∀ {vs : List V} {ds : List PyData} {i : Nat} {v : V}, RpAll H vs ds → vs[i]? = some v → ∃ d, ds[i]? = some d ∧ Rp H v d
  | _, _, _, _, .nil, e => by simp at e
  | _, _, 0, _, .cons a _, e => by
    simp only [List.getElem?_cons_zero, Option.some.injEq] at e
    subst e
    exact ⟨_, rfl, a⟩
  | _, _, i + 1, _, .cons _ r, e => by
    simp only [List.getElem?_cons_succ] at e
    obtain ⟨d, h1, h2⟩ := RpAll.getV (i := i) r e
    exact ⟨d, h1, h2⟩
/-- at p: the pool of a law, whatever it holds; its copy of the script at c -/
def PoolAt (H : Hp) (p c : Addr) : Prop := ∃ (ns : List Int) (i m s b z : Int),
  H p = some (.lst [.ref c, .int i, .int m, .int s, .int b, .int z]) ∧ H c = some (.lst (ns.map V.int)) ∧ 0 ≤ i ∧ 0 ≤ s ∧ s < 2147483647
theorem PoolAt.same {H H' : Hp} {p c : Addr} (s : Same H H') (h : PoolAt H p c) : PoolAt H' p c := by
  obtain ⟨ns, i, m, t, b, z, h1, h2, r⟩ := h
  exact ⟨ns, i, m, t, b, z, s _ _ h1, s _ _ h2, r⟩
/-- another list is changed beside it -/
theorem PoolAt.mut {H : Hp} {p c l : Addr} {o : HO} (h : PoolAt H p c) (n : l ≠ p) (nc : l ≠ c) : PoolAt (upd H l o) p c := by
  obtain ⟨ns, i, m, t, b, z, h1, h2, r⟩ := h
  exact ⟨ns, i, m, t, b, z, by rw [upd_ne n.symm]; exact h1, by rw [upd_ne nc.symm]; exact h2, r⟩
theorem PoolAt.at {H : Hp} {p c : Addr} (h : PoolAt H p c) : ∃ xs, H p = some (.lst xs) ∧ poolV xs = true := by
  obtain ⟨ns, i, m, t, b, z, h1, _⟩ := h
  exact ⟨_, h1, rfl⟩
theorem PoolAt.ne {H : Hp} {p c l : Addr} (h : PoolAt H p c) (f : H l = none) : l ≠ p ∧ l ≠ c := by
  obtain ⟨ns, i, m, t, b, z, h1, h2, _⟩ := h
  exact ⟨(ne_of_none h1 f).symm, (ne_of_none h2 f).symm⟩
theorem bt_isinstance : bootBuiltins "isinstance" = some (.builtin "isinstance") := by decide +kernel
theorem bt_len : bootBuiltins "len" = some (.builtin "len") := by decide +kernel
theorem bt_sum : bootBuiltins "sum" = some (.builtin "sum") := by decide +kernel
theorem bt_min : bootBuiltins "min" = some (.builtin "min") := by decide +kernel
theorem bt_any : bootBuiltins "any" = some (.builtin "any") := by decide +kernel
theorem bt_all : bootBuiltins "all" = some (.builtin "all") := by decide +kernel
theorem bt_int : bootBuiltins "int" = some (.type "int") := by decide +kernel
theorem bt_bool : bootBuiltins "bool" = some (.type "bool") := by decide +kernel
theorem bt_str : bootBuiltins "str" = some (.type "str") := by decide +kernel
theorem bt_list : bootBuiltins "list" = some (.type "list") := by decide +kernel
theorem bt_tuple : bootBuiltins "tuple" = some (.type "tuple") := by decide +kernel
structure Blt (mg : Str → Option Value) : Prop where
  isinstance : mg "isinstance" = none
  len : mg "len" = none
  sum : mg "sum" = none
  max : mg "max" = none
  min : mg "min" = none
  abs : mg "abs" = none
  any : mg "any" = none
  all : mg "all" = none
  sorted : mg "sorted" = none
  int : mg "int" = none
  bool : mg "bool" = none
  str : mg "str" = none
  list : mg "list" = none
  tuple : mg "tuple" = none
  dict : mg "dict" = none
  range : mg "range" = none
  enumerate : mg "enumerate" = none
  zip : mg "zip" = none
def rLen (K : PySem.W.Frag) : List V → Hp → VK → Prop := fun xs H Q => ∃ p ys, xs = [V.ref p] ∧ (SqL K H p ys ∨ SqT K H p ys) ∧ Q (.int (ys.length : Nat)) H
def rListOf (K : PySem.W.Frag) : List V → Hp → VK → Prop := fun xs H Q => ∃ p ys, xs = [V.ref p] ∧ (SqL K H p ys ∨ SqT K H p ys) ∧ ∀ l, H l = none → Q (.ref l) (upd H l (.lst ys))
section
variable {X : Cx} {K : PySem.W.Frag} {e o b : Expr} {es : List Expr} {ta to : TE} {t : TA} {f : Str} {pos : Pos}
theorem kfld (hK : X.K = K) (he : PE X e ta) (hb : attributeBase e f X.env (eval e X.env) = eval e X.env := by rfl) : PE X (.Attribute e f pos) (tFld K ta f) := by
  subst hK
  exact pe_fld he hb
theorem kixl (hK : X.K = K) : IxR X (rIxL K) := by
  subst hK
  exact ix_list
theorem kixs (hK : X.K = K) : IxR X (rIx K) := by
  subst hK
  exact ix_seq
theorem ksll (hK : X.K = K) : SlR X (rSlL K) := by
  subst hK
  exact sl_list
theorem kin (hK : X.K = K) : OpR X (compareOp .In) (rIn K false) := by
  subst hK
  exact op_in_seq
theorem knin (hK : X.K = K) : OpR X (compareOp .NotIn) (rIn K true) := by
  subst hK
  exact op_notIn_seq
theorem keqd (hK : X.K = K) (hu : X.A.units + 64 < cLine) : OpR X (compareOp .Eq) (rEqD K) := by
  subst hK
  exact op_eqD hu
theorem kned (hK : X.K = K) (hu : X.A.units + 64 < cLine) : OpR X (compareOp .NotEq) (rNeD K) := by
  subst hK
  exact op_neD hu
theorem klen (hK : X.K = K) : CallR X (.builtin "len") (rLen K) := by
  subst hK
  exact call_len_seq
theorem klist (hK : X.K = K) : CallR X (.type "list") (rListOf K) := by
  subst hK
  exact call_list_of
theorem kisi (hK : X.K = K) : CallR X (.builtin "isinstance") (rIsi K) := by
  subst hK
  exact call_isi
theorem kany (hK : X.K = K) (hc : X.calm = true) : CallR X (.builtin "any") (rAny K) := by
  subst hK
  exact cr_any hc
theorem kall (hK : X.K = K) (hc : X.calm = true) : CallR X (.builtin "all") (rAll K) := by
  subst hK
  exact cr_all hc
theorem ksum (hK : X.K = K) (hc : X.calm = true) : CallR X (.builtin "sum") (rSum K) := by
  subst hK
  exact cr_sum hc
theorem kpil (hK : X.K = K) {tg l : Expr} {tl : TE} (h : PE X l tl) : PI X tg l (iList K tl) := by
  subst hK
  exact pi_list h
theorem kpit (hK : X.K = K) {tg l : Expr} {tl : TE} (h : PE X l tl) : PI X tg l (iTup K tl) := by
  subst hK
  exact pi_tup h
theorem kgtup (hK : X.K = K) {es : List Expr} {k n : Nat} {t : TGs} (hc : X.calm = true) (h : PGs X es t) (hn : (assignEach es X.env).length = n := by rfl) (hst : (assignEach es X.env).findIdx? (·.1) = none := by rfl) : PG X (.Tuple es k pos) (gTup K n t) := by
  subst hK
  exact pg_tup hc h hn hst
end
def ItS (k : Bool) (K : PySem.W.Frag) (a : Addr) : It := match k with
  | true => Itt K a
  | false => Itl K a
def iK (k : Bool) (K : PySem.W.Frag) (tl : TE) : TI := fun σ H R => tl σ H fun x H1 => ∃ a, x = .ref a ∧ (∃ xs, SqK k K H1 a xs) ∧ R (ItS k K a) H1
theorem pi_K (k : Bool) {X : Cx} {K : PySem.W.Frag} (hK : X.K = K) {tg l : Expr} {tl : TE} (h : PE X l tl) : PI X tg l (iK k K tl) := by
  subst hK
  cases k with
  | true => exact pi_tup h
  | false => exact pi_list h
theorem SqK.same {k : Bool} {K : PySem.W.Frag} {H H' : Hp} {a : Addr} {xs : List V} (s : Same H H') (h : SqK k K H a xs) : SqK k K H' a xs := by
  cases k with
  | true =>
    rcases h with (h | ⟨o, h⟩) | h
    · exact .inl (.inl (s _ _ h))
    · exact .inl (.inr ⟨o, s _ _ h⟩)
    · exact .inr h
  | false => exact Same.seq s h
theorem for_enum {K : PySem.W.Frag} {a : Addr} {xs : List V} {g : TG} {tb : TS} {D : Ends} {σ : L2.St} {H : Hp} (Pv : Nat → L2.St → Hp → Prop) (h0 : Pv 0 σ H) (hq : ∀ i σ H, Pv i σ H → SqL K H a xs)
    (hs : ∀ (i : Nat) (x : V) (T : Addr) (σ : L2.St) (H : Hp), xs[i]? = some x → Pv i σ H → H T = none → g (.ref T) σ (upd H T (.tup [.int (i : Nat), x])) fun σ2 H2 => tb { D with nx := Pv (i + 1), ct := Pv (i + 1), bk := D.nx } σ2 H2) (hd : ∀ σ H, Pv xs.length σ H → D.nx σ H) :
    ∃ W : Nat → Nat → L2.St → Hp → Prop, (∃ m, W 0 m σ H) ∧ ∀ i m σ H, W i m σ H →
      ((Ite K a).stop i H ∧ D.nx σ H) ∨ ((Ite K a).go i H ∧ ∃ N : L2.St → Hp → Prop, (∀ σ' H', N σ' H' → ∃ m', m' < m ∧ W (i + 1) m' σ' H') ∧ ∀ v H', (Ite K a).yld i H v H' → g v σ H' fun σ2 H2 => tb { D with nx := N, ct := N, bk := D.nx } σ2 H2) := by
  refine ⟨fun i m σ H => m + i = xs.length ∧ Pv i σ H, ⟨xs.length, rfl, h0⟩, ?_⟩
  rintro i m σ H ⟨hm, p⟩
  have qx := hq i σ H p
  by_cases hlt : i < xs.length
  · refine .inr ⟨⟨xs, xs[i], qx, List.getElem?_eq_getElem hlt⟩, Pv (i + 1), fun σ' H' p' => ⟨m - 1, by omega, by omega, p'⟩, fun v H' yl => ?_⟩
    obtain ⟨T, x, rfl, hT, rfl, f1⟩ := yl
    exact hs i x T σ H (f1 xs qx) p hT
  · have e : i = xs.length := by omega
    subst e
    exact .inl ⟨⟨xs, qx, Nat.le_refl _⟩, hd σ H p⟩
theorem pe_gint {X : Cx} {x : Str} {i : Int} {pos : Pos} (h : ∃ t, X.mg x = some (.int i t)) (hg : Gl X x := by rfl) (hd : (x == ("__debug__" : Str)) = false := by decide) : PE X (.Name x pos) (tC (.int i)) := by
  obtain ⟨t, h⟩ := h
  exact pe_glob hg h ⟨_, rfl⟩ (hd := hd)
theorem cut_take (xs : List V) (i : Nat) : cutV xs none (some (i : Int)) = xs.take i := by
  unfold cutV
  rw [HT.sIx_nat, HT.sIx_none, List.drop_zero, Nat.sub_zero, ← List.take_eq_take_min]
theorem inV_ints (n : Int) (ns : List Int) : inV (.int n) (ns.map V.int) = decide (n ∈ ns) := by
  unfold inV
  rw [List.any_map]
  rw [Bool.eq_iff_iff, decide_eq_true_eq, List.any_eq_true]
  refine ⟨fun ⟨y, hy, e⟩ => ?_, fun h => ⟨n, h, ?_⟩⟩
  · have e' : (y == n) = true := e
    rw [← eq_of_beq e']
    exact hy
  · show (n == n) = true
    exact beq_self_eq_true n
theorem flat_ints (ns : List Int) : (ns.map V.int).all flatV = true := by
  rw [List.all_map]
  exact List.all_eq_true.mpr fun _ _ => rfl
section
variable {prog : Program} {w : World}
theorem pzK (k1 k2 : Bool) (z TI TO i1 i2 l1 l2 : Addr) (D : ZipApart z TI TO i1 i2 l1 l2) (us vs : Array Value) :
    PairArg prog w "zip" z [z, TI, TO, i1, i2, l1, l2] [z, TO, i1, i2] (min us.size vs.size) (fun i k v => us[i]? = some k ∧ vs[i]? = some v)
      (fun h => IsZip h z TI TO .none ∧ IsPair h TI (.ref i1) (.ref i2) ∧ (∃ a b, IsPair h TO a b) ∧ ItK k1 h i1 l1 0 ∧ ItK k2 h i2 l2 0 ∧ SeK k1 h l1 us ∧ SeK k2 h l2 vs) where
  type := fun s ok => ⟨_, ok.1, rfl⟩
  notDict := by decide
  keep := fun h h' ok hk => by
    obtain ⟨hz, hTI, ⟨a, b, hTO⟩, h1, h2, hl1, hl2⟩ := ok
    exact ⟨hk _ _ hz, hk _ _ hTI, ⟨a, b, hk _ _ hTO⟩, h1.at fun o e => hk _ o e, h2.at fun o e => hk _ o e, hl1.at fun o e => hk _ o e, hl2.at fun o e => hk _ o e⟩
  there := fun h ok b hb => by
    obtain ⟨hz, hTI, ⟨a, c, hTO⟩, h1, h2, hl1, hl2⟩ := ok
    obtain ⟨o1, h1, _⟩ := h1.obj
    obtain ⟨o2, h2, _⟩ := h2.obj
    have g1 : ∃ o, h.get? l1 = some o := by
      cases k1 with
      | true => obtain ⟨o, e, _⟩ := hl1; exact ⟨o, e⟩
      | false => obtain ⟨o, e, _⟩ := hl1; exact ⟨o, e⟩
    have g2 : ∃ o, h.get? l2 = some o := by
      cases k2 with
      | true => obtain ⟨o, e, _⟩ := hl2; exact ⟨o, e⟩
      | false => obtain ⟨o, e, _⟩ := hl2; exact ⟨o, e⟩
    simp only [List.mem_cons, List.not_mem_nil, or_false] at hb
    rcases hb with rfl | rfl | rfl | rfl | rfl | rfl | rfl
    all_goals first | exact ⟨_, hz⟩ | exact ⟨_, hTI⟩ | exact ⟨_, hTO⟩ | exact ⟨_, h1⟩ | exact ⟨_, h2⟩ | exact g1 | exact g2
  sub := fun b hb => by simp at hb ⊢; rcases hb with rfl | rfl | rfl | rfl <;> simp
  noKeys := fun A s Q E hA ok h => getAttrOr_miss_zip ok.1 rfl rfl rfl zip_no_keys (by decide +kernel) hA h
  iter := fun A s d Q E hA ok hd hdf h => by
    obtain ⟨hz, hTI, ⟨a, b, hTO⟩, h1, h2, hl1, hl2⟩ := ok
    simp only [List.mem_cons, List.not_mem_nil, or_false, not_or] at hdf
    obtain ⟨dz, dTI, dTO, di1, di2, dl1, dl2⟩ := hdf
    have nS : d ≠ z ∧ d ≠ TI ∧ d ≠ TO ∧ d ∉ [i1, l1] ∧ d ∉ [i2, l2] := ⟨dz, dTI, dTO, by simp [di1, dl1], by simp [di2, dl2]⟩
    have hA1 : A.in1.handled = none := hA
    have d1 := drK (prog := prog) (w := w) (A := A.in1) k1 hA1 D.l1i1 us
    have d2 := drK (prog := prog) (w := w) (A := A.in1) k2 hA1 D.l2i2 vs
    refine wpAny_pyIter_zip hz (h z [z, TO, i1, i2] (fun i h => ZSt z TI TO i1 i2 d (StK k1 i1 l1 us) (StK k2 i2 l2 vs) h i) s.heap s.toks ?_
      ⟨hTI, ⟨h1, hl1⟩, ⟨h2, hl2⟩, .inl ⟨hz, a, b, hTO⟩⟩ (fun _ _ e => e) fun b hb => .inl hb)
    exact {
      off := fun hm => by
        simp only [List.mem_cons, List.not_mem_nil, or_false] at hm
        rcases hm with e | e | e | e
        · exact dz e
        · exact dTO e
        · exact di1 e
        · exact di2 e
      frame := fun i h₁ h₂ st hk => ZSt.over d1 d2 st nS hk
      item := fun i s₁ Q₁ E₁ hi st hds hQ => by
        refine zs_item (sepK D) d1 d2 st (by omega) (by omega) hds fun x y h' tk px py st' hp hsz hk => ?_
        refine hQ _ x y h' tk ⟨px, py⟩ (.inl ⟨_, hp, rfl, _, rfl⟩) st' fun b o hb e => ?_
        simp only [List.mem_cons, List.not_mem_nil, or_false, not_or] at hb
        exact hk b o hb.1 hb.2.1 hb.2.2.1 hb.2.2.2 e
      done := fun s₁ Q₁ E₁ st hQ => by
        refine zs_end (sepK D) d1 d2 st (by omega) (by omega) (by omega) fun h' tk hk => hQ h' tk fun b o hb e => ?_
        simp only [List.mem_cons, List.not_mem_nil, or_false, not_or] at hb
        exact hk b o hb.1 hb.2.1 hb.2.2.1 hb.2.2.2 e }
end
/-- dict(zip(e, e2)): the keys are texts or ints -/
def tDictZip (k1 k2 : Bool) (K : PySem.W.Frag) (ta : TA) : TE := fun σ H Q => ta σ H fun vs H1 => ∃ (a b : Addr) (ks : List Key) (ys : List V), vs = [.ref a, .ref b] ∧ SqK k1 K H1 a (ks.map kV) ∧ SqK k2 K H1 b ys ∧
  ∀ p, H1 p = none → Q (.ref p) (upd H1 p (.dK (mergeK [] (ks.zip ys))))
theorem zip_kv : ∀ {ks : List Key} {ys : List V} {vs : List Value}, Vals ys vs → KV (ks.zip ys) (ks.zip vs)
  | [], _, _, _ => .nil
  | _ :: _, _, _, .nil => .nil
  | _ :: _, _, _, .cons r t => .cons ⟨rfl, r⟩ (zip_kv t)
section
variable {X : Cx} {p pz pos cpos : Pos} {e e2 : Expr} {ta : TA}
theorem pe_dictZip (k1 k2 : Bool) {K : PySem.W.Frag} (hK : X.K = K) (hc : X.calm = true) (hg : Gl X "dict") (hm : X.mg "dict" = none) (hgz : Gl X "zip") (hmz : X.mg "zip" = none) (ha : PA X [e, e2] ta)
    (hs : starEach [e, e2] X.env = (false, eval e X.env) :: starEach [e2] X.env := by rfl) (hpl : (backTo cpos (starEach [e2] X.env)).any (·.1) = false := by rfl)
    (hs2 : starEach [.Call (.Name "zip" pz) [e, e2] [] cpos] X.env = (false, eval (.Call (.Name "zip" pz) [e, e2] [] cpos) X.env) :: starEach [] X.env := by rfl) :
    PE X (.Call (.Name "dict" p) [.Call (.Name "zip" pz) [e, e2] [] cpos] [] pos) (tDictZip k1 k2 K ta) := by
  subst hK
  refine ⟨fun pins s σ H Q I h => ?_⟩
  refine wpAny_Call_Name_kw (ld_blt I hg hm (show bootBuiltins "dict" = some (.type "dict") by decide +kernel) (PyProof.Rows.callWith_type1 ?_ hs2 rfl))
  rw [hs2]; show wpAny _ _ (spliced ((false, eval (.Call (.Name "zip" pz) [e, e2] [] cpos) X.env) :: backTo pos (starEach [] X.env))) _ _ s
  refine Calls.spliced_cons ?_
  refine Call_ (ld_blt I hgz hmz PyProof.Rows.boot_zip (PyProof.Rows.callWith_type1 (thn (ha.run cpos pins s σ H _ I h) fun us s1 hh => ?_) hs hpl))
  obtain ⟨vs, H1, I1, r1, a, b, ks, ys, rfl, qx, qy, q⟩ := hh
  obtain ⟨u1, u2, rfl, ru, rv⟩ := vals2 r1
  cases (show u1 = Value.ref a from ru)
  cases (show u2 = Value.ref b from rv)
  obtain ⟨us, rus, pu, lu⟩ := seqK I1 qx
  obtain ⟨ws, rws, pw, lw⟩ := seqK I1 qy
  have lus := rus.length
  have lws := rws.length
  rw [List.length_map] at lus lu
  refine zip_begins2 (bgK k1 a us.toArray) (bgK k2 b ws.toArray) pu pw fun h' hz hTI hTO o1 o2 hsz hk => ?_
  refine Calls.spliced_nil ?_
  have D := PySem.W.ktu_apart s1.heap.objs.size a b pu.lt pw.lt
  have ez : (ks.zip ws).length = min us.toArray.size ws.toArray.size := by
    rw [List.length_zip, List.size_toArray, List.size_toArray, lus]
  refine call_dict_pairs (s := { s1 with heap := h' }) (knd := mixKind X.prog X.w) (kvs := ks.zip ws) (pzK (prog := X.prog) (w := X.w) k1 k2 _ _ _ _ _ a b D us.toArray ws.toArray) (I1.ok.hd hc) ⟨hz, hTI, ⟨_, _, hTO⟩, itK0 o1, itK0 o2, pu.at fun o => hk a o, pw.at fun o => hk b o⟩
    ⟨ez, fun i key v hkv => ?_⟩ (by rw [← ez, List.length_zip]; omega) fun h2 tk hd' hk2 => ?_
  · obtain ⟨e1, e2⟩ := hkv
    have e1' : us[i]? = some key := by simpa using e1
    have e2' : ws[i]? = some v := by simpa using e2
    have hi : i < ks.length := by
      have := (List.getElem?_eq_some_iff.mp e1').1
      omega
    obtain ⟨u, g1, g2⟩ := rus.get (i := i) (x := kV ks[i]) (by rw [List.getElem?_map, List.getElem?_eq_getElem hi]; rfl)
    rw [e1'] at g1
    cases g1
    exact ⟨ks[i], by rw [List.getElem?_zip_eq_some]; exact ⟨List.getElem?_eq_getElem hi, e2'⟩, kV_is g2⟩
  · have kp0 : ∀ c o, s1.heap.get? c = some o → h2.get? c = some o := fun c o ho => by
      have lc : c < s1.heap.objs.size := Heap.lt_size ho
      refine hk2 c o (fun hb => ?_) (hk c o ho)
      simp only [List.mem_cons, List.not_mem_nil, or_false] at hb
      rcases hb with e | e | e | e
      · exact absurd (e ▸ lc) (Nat.not_lt.mpr (Nat.le_add_right _ _))
      · exact absurd (e ▸ lc) (Nat.not_lt.mpr (Nat.le_add_right _ _))
      · exact absurd (e ▸ lc) (Nat.lt_irrefl _)
      · exact absurd (e ▸ lc) (Nat.not_lt.mpr (Nat.le_add_right _ _))
    have lN : s1.heap.objs.size ≤ h'.objs.size := by
      rw [hsz]
      exact Nat.le_add_right _ _
    have hmS : (h'.objs.size == sysModules) = false := beq_eq_false_iff_ne.mpr (Nat.ne_of_gt (Nat.lt_of_lt_of_le I1.big lN))
    have rel : KV (ks.zip ys) (ks.zip ws) := zip_kv rws
    have hlen : (mergeK [] (ks.zip ys)).length ≤ sizeLine := by
      refine Nat.le_trans (length_mergeK (ks.zip ys) []) ?_
      rw [List.length_nil, Nat.zero_add, List.length_zip]
      omega
    exact ⟨.ref h'.objs.size, upd H1 h'.objs.size (.dK (mergeK [] (ks.zip ys))), I1.laid (t' := tk) kp0 lN (show ObjOk X.prog X.w _ _ _ (.dK (mergeK [] (ks.zip ys))) from ⟨hlen, hmS, merged [] (ks.zip ws), KV.merge rel .nil, hd'⟩), rfl, q _ (I1.hok.fresh lN)⟩
end
/-- two instances of the class at C, by the promise of its own __eq__ -/
def rEqO (C : Addr) (sp : Sp) (E : XK) : R2 := fun x y H Q => ∃ a b dx dy fs gs, x = .ref a ∧ y = .ref b ∧ H a = some (.ins C dx fs) ∧ H b = some (.ins C dy gs) ∧ sp [.ref a, .ref b] H (fun v H' => (∃ c : Bool, v = .bl c) ∧ Q v H') E
theorem op_eqO {X : Cx} {n : Nat} {CX : CXT} {C f : Addr} {fd : FuncData} {ps : List Str} {sp : Sp} {E : XK} (F : FnOk X.prog X.w X.K X.mg X.base CX n f fd ps sp)
    (hs : PySem.W.findIn X.K (.ref C) "__eq__" = some (some (.ref f))) (hf : PySem.W.isFn X.K (.ref f) = true) (hb : Binds X.K fd ps []) (hx : Passes CX X E) (hr : Room n X.A) : OpR X (compareOp .Eq) (rEqO C sp E) := by
  intro pins s σ H x y v u Q I rx ry hq
  obtain ⟨a, b, dx, dy, fs, gs, rfl, rfl, ha, hb', hsp⟩ := hq
  show wpAny (model X.prog X.w) X.A (richCompare .Eq v u) (EP X pins σ Q) X.xe s
  cases rx
  cases ry
  obtain ⟨mA, J, _⟩ := ins_get I.hok ha
  obtain ⟨mB, J', _⟩ := ins_get I.hok hb'
  obtain ⟨od, J, _⟩ := J.look
  obtain ⟨od', J', _⟩ := J'.look
  obtain ⟨m, hF⟩ := I.fr
  refine PySem.W.cmp_K (op := .Eq) (tb := .ref C) hr.units0 hF I.ok.mod.kin J J'.type (by simp [PySem.W.notFirst]) hs hf ?_
  have hl := F.len _ _ _ _ hsp
  have r2 : Vals [V.ref a, V.ref b] [Value.ref a, Value.ref b] := .cons rfl (.cons rfl .nil)
  refine wpAny_call (codeAny_mono (F.run X.A X.stack s H ⟨[.ref a, .ref b], []⟩ [.ref a, .ref b] [.ref a, .ref b] _ E hr I.env0 (by
    have := hb s [.ref a, .ref b] I.kIn (by simpa using hl)
    simpa using this) r2 hsp) fun r s' hq => ?_)
  cases r with
  | error e => exact hx pins σ H s e s' I hq
  | ok fl =>
    cases fl with
    | ret w =>
      obtain ⟨z, H', I', rz, ⟨c, ez⟩, ex⟩ := I.after hq
      subst ez
      cases rz
      exact ⟨.bl c, H', I', rfl, ex⟩
    | next => exact False.elim hq
    | brk => exact False.elim hq
    | cont => exact False.elim hq
theorem krevL {X : Cx} {K : PySem.W.Frag} (hK : X.K = K) {e : Expr} {te : TE} {k : Nat} {p1 p2 p3 pos : Pos} (he : PE X e te) : PE X (.Subscript e (.Slice none none (some (.UnaryOp .USub (.Constant (.int 1) k p1) p2)) p3) pos) (tRevL K te) := by
  subst hK
  exact pe_revL he
def TpO (o : HO) (vs : List V) : Prop := ∃ ob : Obj, ob.dict = none ∧ o = .frz ob (.tup vs)
theorem TpO.sq {K : PySem.W.Frag} {H : Hp} {a : Addr} {o : HO} {vs : List V} (t : TpO o vs) (h : H a = some o) : SqT K H a vs := by
  obtain ⟨ob, _, rfl⟩ := t
  exact .inl (.inr ⟨ob, h⟩)
def tTupF (t : TA) : TE := fun σ H Q => t σ H fun xs H1 => xs.length ≤ sizeLine ∧ ∀ p o, H1 p = none → TpO o xs → Q (.ref p) (upd H1 p o)
theorem pe_tupF {X : Cx} {es : List Expr} {t : TA} {pos : Pos} {x1} (h : PA X es t) : PE X (.Tuple es x1 pos) (tTupF t) := by
  refine ⟨fun pins s σ H Q I hq => ?_⟩
  refine wpAny_Tuple_spliced (thn (h.run pos pins s σ H _ I hq) fun us s1 ⟨xs, H1, I1, r, z, q⟩ => ⟨by rw [← r.length]; exact z, ?_⟩)
  have hf : H1 s1.heap.objs.size = none := I1.hok.fresh (Nat.le_refl _)
  refine ⟨.ref s1.heap.objs.size, upd H1 s1.heap.objs.size (.frz { cls := .type "tuple", data := .seq us.toArray } (.tup xs)), I1.laid (t' := s1.toks) (fun b u e => Heap.get?_push_of_some _ e) (Nat.le_refl _) ?_, rfl, q _ _ hf ⟨_, rfl, rfl⟩⟩
  exact ⟨Heap.get?_push_size _ rfl, z, us, r, ⟨_, Heap.get?_push_size _ rfl, rfl, _, rfl⟩⟩
def rTupF (K : PySem.W.Frag) : List V → Hp → VK → Prop := fun xs H Q => ∃ p ys, xs = [V.ref p] ∧ ((SqL K H p ys ∧ ∀ l o, H l = none → TpO o ys → Q (.ref l) (upd H l o)) ∨ (SqT K H p ys ∧ Q (.ref p) H))
theorem ktupF {X : Cx} {K : PySem.W.Frag} (hK : X.K = K) : CallR X (.type "tuple") (rTupF K) := by
  subst hK
  intro pins s σ H xs us Q I r h
  obtain ⟨p, ys, rfl, h⟩ := h
  obtain ⟨u, rfl, ru⟩ := vals1 r
  cases ru
  rcases h with ⟨hs, q⟩ | ⟨hs, q⟩
  · obtain ⟨its, rv, pl, hz⟩ := I.list hs
    refine call_tuple_list pl.isList (fun h' hk => ?_) (by rw [List.size_toArray, ← rv.length]; exact hz)
    have I1 : Inv X pins σ H { s with heap := h' } := I.kept (t' := s.toks) hk
    have I2 : Inv X pins σ (upd H h'.objs.size (.frz { cls := .type "tuple", data := .seq its.toArray } (.tup ys))) { s with heap := h'.push { cls := .type "tuple", data := .seq its.toArray } } :=
      I1.laid (t' := s.toks) (fun b o e => Heap.get?_push_of_some _ e) (Nat.le_refl _) (show ObjOk X.prog X.w _ _ _ (.frz _ (.tup ys)) from ⟨Heap.get?_push_size _ rfl, hz, its, rv, IsTup.new _ _⟩)
    exact ⟨.ref h'.objs.size, _, I2, rfl, q _ _ (I1.hok.fresh (Nat.le_refl _)) ⟨_, rfl, rfl⟩⟩
  · obtain ⟨its, rv, pl, hz⟩ := I.tuple hs
    exact call_tuple_tup pl ⟨.ref p, H, I, rfl, q⟩
/-- t[lo:hi]: the whole of it is t itself -/
def rSlF (K : PySem.W.Frag) : V → Option Int → Option Int → Hp → VK → Prop := fun x lo hi H Q => ∃ a xs, x = .ref a ∧ SqT K H a xs ∧
  (HT.sIx xs.length 0 lo = 0 ∧ HT.sIx xs.length xs.length hi = xs.length → Q (.ref a) H) ∧ (¬ (HT.sIx xs.length 0 lo = 0 ∧ HT.sIx xs.length xs.length hi = xs.length) → ∀ p o, H p = none → TpO o (cutV xs lo hi) → Q (.ref p) (upd H p o))
theorem kslF {X : Cx} {K : PySem.W.Frag} (hK : X.K = K) : SlR X (rSlF K) := by
  subst hK
  intro pins s σ H x v vl vu lo hi sl Q I rx hs pl pu h
  obtain ⟨a, xs, rfl, hx, q1, q2⟩ := h
  cases rx
  obtain ⟨its, r, ht, hz⟩ := I.tuple hx
  have hlen : its.toArray.size = xs.length := by rw [List.size_toArray]; exact r.length.symm
  by_cases hw : HT.sIx xs.length 0 lo = 0 ∧ HT.sIx xs.length xs.length hi = xs.length
  · refine ⟨"tuple", _, PyProof.Rows.slot_tuple_getitem.lookup, ht.typeIs, ?_⟩
    exact getItem_tuple_whole ht hs pl pu (by rw [hlen]; exact hw) ⟨.ref a, H, I, rfl, q1 hw⟩
  · refine ⟨"tuple", _, PyProof.Rows.slot_tuple_getitem.lookup, ht.typeIs, ?_⟩
    refine HT.getItem_tuple_cut ht hs pl pu (by rw [hlen]; exact hw) ?_ (by rw [hlen]; exact hz)
    rw [hlen]
    refine ⟨.ref s.heap.objs.size, _, I.laid (t' := s.toks) (o := .frz { cls := .type "tuple", data := .seq ((its.toArray.toList.drop (HT.sIx xs.length 0 lo)).take (HT.sIx xs.length xs.length hi - HT.sIx xs.length 0 lo)).toArray } (.tup (cutV xs lo hi))) (fun b ob q => Heap.get?_push_of_some _ q) (Nat.le_refl _) ?_, rfl, q2 hw _ _ (I.hok.fresh (Nat.le_refl _)) ⟨_, rfl, rfl⟩⟩
    exact ⟨Heap.get?_push_size _ rfl, Nat.le_trans (cutV_length xs lo hi) hz, _, (r.drop (HT.sIx xs.length 0 lo)).take (HT.sIx xs.length xs.length hi - HT.sIx xs.length 0 lo), IsTup.new _ _⟩
/-- t + u -/
def rCatF (K : PySem.W.Frag) : R2 := fun x y H Q => ∃ a b xs ys, x = .ref a ∧ y = .ref b ∧ SqT K H a xs ∧ SqT K H b ys ∧ xs.length + ys.length ≤ sizeLine ∧
  (xs = [] → Q (.ref b) H) ∧ (xs ≠ [] → ys = [] → Q (.ref a) H) ∧ (xs ≠ [] → ys ≠ [] → ∀ p o, H p = none → TpO o (xs ++ ys) → Q (.ref p) (upd H p o))
theorem kcatF {X : Cx} {K : PySem.W.Frag} (hK : X.K = K) : OpR X (binaryOp .Add) (rCatF K) := by
  subst hK
  intro pins s σ H x y v u Q I rx ry h
  obtain ⟨a, b, xs, ys, rfl, rfl, ha, hb, hz, q0, q1, q2⟩ := h
  cases rx
  cases ry
  obtain ⟨its, r1, p1, _⟩ := I.tuple ha
  obtain ⟨its2, r2, p2, _⟩ := I.tuple hb
  by_cases hx : xs = []
  · subst hx
    cases r1
    exact cat_tup0 p1 p2 ⟨.ref b, H, I, rfl, q0 rfl⟩
  · refine HT.cat_tup p1 p2 (fun z => hx (r1.nil_iff.mp z)) (fun z => ⟨.ref a, H, I, rfl, q1 hx (r2.nil_iff.mp z)⟩) (fun z => ?_) (by rw [← r1.length, ← r2.length]; exact hz)
    refine ⟨.ref s.heap.objs.size, _, I.laid (t' := s.toks) (o := .frz { cls := .type "tuple", data := .seq (its ++ its2).toArray } (.tup (xs ++ ys))) (fun b ob q => Heap.get?_push_of_some _ q) (Nat.le_refl _) ?_, rfl, q2 hx (fun w => z (r2.nil_iff.mpr w)) _ _ (I.hok.fresh (Nat.le_refl _)) ⟨_, rfl, rfl⟩⟩
    exact ⟨Heap.get?_push_size _ rfl, by rw [List.length_append]; exact hz, _, r1.append r2, IsTup.new _ _⟩
/-- the turns of a zip of a and b -/
def ItzF (k1 k2 : Bool) (K : PySem.W.Frag) (a b : Addr) : It where
  go := fun i H => ∃ (xs ys : List V) (x y : V), SqK k1 K H a xs ∧ SqK k2 K H b ys ∧ xs[i]? = some x ∧ ys[i]? = some y
  yld := fun i H v H' => ∃ T x y o, v = .ref T ∧ H T = none ∧ TpO o [x, y] ∧ H' = upd H T o ∧ (∀ xs, SqK k1 K H a xs → xs[i]? = some x) ∧ ∀ ys, SqK k2 K H b ys → ys[i]? = some y
  stop := fun i H => ∃ xs ys : List V, SqK k1 K H a xs ∧ SqK k2 K H b ys ∧ i ≤ xs.length ∧ i ≤ ys.length ∧ (i = xs.length ∨ i = ys.length)
theorem turnF {P : Program} {w : World} {K : PySem.W.Frag} {elts : List Expr} {kk : Nat} {tpos : Pos} {k1 k2 : Bool} {a b z TI TO i1 i2 : Addr} (D : ZipApart z TI TO i1 i2 a b) :
    Turn P w K (.Tuple elts kk tpos) (ItzF k1 k2 K a b) [z, TI, TO, i1, i2] z
      (fun i h => IsZip h z TI TO .none ∧ IsPair h TI (.ref i1) (.ref i2) ∧ (∃ x y, IsPair h TO x y) ∧ ItK k1 h i1 a i ∧ ItK k2 h i2 b i) where
  mem := by simp
  obj := fun i h st c hc => by
    obtain ⟨hz, hTI, ⟨x, y, hTO⟩, g1, g2⟩ := st
    simp only [List.mem_cons, List.not_mem_nil, or_false] at hc
    rcases hc with rfl | rfl | rfl | rfl | rfl
    · exact ⟨_, hz, fun v q => nomatch q⟩
    · exact ⟨_, hTI, fun v q => nomatch q⟩
    · exact ⟨_, hTO, fun v q => nomatch q⟩
    · exact g1.obj
    · exact g2.obj
  keep := fun i h h' st q => by
    obtain ⟨hz, hTI, ⟨x, y, hTO⟩, g1, g2⟩ := st
    exact ⟨q z (by simp) _ hz, q TI (by simp) _ hTI, ⟨x, y, q TO (by simp) _ hTO⟩, g1.at fun o => q i1 (by simp) o, g2.at fun o => q i2 (by simp) o⟩
  item := by
    intro X hP hw hK hc i pins s σ H E I hf st hg
    subst hP hw hK
    obtain ⟨hz, hTI, ⟨x0, y0, hTO⟩, g1, g2⟩ := st
    obtain ⟨xs, ys, x, y, qx, qy, hx, hy⟩ := hg
    obtain ⟨us, ru, pu, _⟩ := seqK I qx
    obtain ⟨vs, rv, pv, _⟩ := seqK I qy
    obtain ⟨u, hu, ru1⟩ := ru.get hx
    obtain ⟨v, hv, rv1⟩ := rv.get hy
    have zl : z < s.heap.objs.size := Heap.lt_size hz
    have lu : i < us.toArray.size := by simpa using (List.getElem?_eq_some_iff.mp hu).1
    have lv : i < vs.toArray.size := by simpa using (List.getElem?_eq_some_iff.mp hv).1
    have hh : X.A.in1.handled = none := I.ok.hd hc
    have d1 := drK (prog := X.prog) (w := X.w) (A := X.A.in1) k1 hh D.l1i1 us.toArray
    have d2 := drK (prog := X.prog) (w := X.w) (A := X.A.in1) k2 hh D.l2i2 vs.toArray
    refine wpAny_pyNext_zipD2_item (sepK D) d1 d2 hz hTI hTO ⟨g1, pu⟩ ⟨g2, pv⟩ lu lv fun u' v' h' tk eu ev z1 t1 s1 s2 hT hsz hk => ?_
    have eu' : u' = u := by
      have : us.toArray[i]? = some u := by simpa using hu
      rw [this] at eu
      exact (Option.some.inj eu).symm
    have ev' : v' = v := by
      have : vs.toArray[i]? = some v := by simpa using hv
      rw [this] at ev
      exact (Option.some.inj ev).symm
    subst eu' ev'
    refine ⟨_, rfl, wpAny_letOwnedTupleGo_zip (s := { s with heap := h', toks := tk }) z1 fun h2 z2 sb => ?_⟩
    have hT2 : IsPair h2 s.heap.objs.size u' v' := (sb.2 _ (Nat.ne_of_gt zl)).trans hT
    have new : ObjOk X.prog X.w (upd H s.heap.objs.size (.frz { cls := .type "tuple", data := .seq #[u', v'] } (.tup [x, y]))) h2 s.heap.objs.size (.frz { cls := .type "tuple", data := .seq #[u', v'] } (.tup [x, y])) := ⟨hT2, Nat.le_of_ble_eq_true rfl, [u', v'], .cons ru1 (.cons rv1 .nil), ⟨_, hT2, rfl, _, rfl⟩⟩
    have ks : ∀ c o, c ∉ [z, TI, TO, i1, i2] → s.heap.get? c = some o → h2.get? c = some o := fun c o hb q => by
      simp only [List.mem_cons, List.not_mem_nil, or_false, not_or] at hb
      exact (sb.2 c hb.1).trans (hk c o hb.1 hb.2.2.1 hb.2.2.2.1 hb.2.2.2.2 q)
    have J := I.turnedNew (t' := tk) (ch := [z, TI, TO, i1, i2]) ks hf (Nat.le_refl _) new
    refine ⟨V.ref s.heap.objs.size, _, J, rfl, ⟨_, x, y, _, rfl, I.hok.fresh (Nat.le_refl _), ⟨_, rfl, rfl⟩, rfl, fun l hl => by rw [seqK_inj I hl qx]; exact hx, fun l hl => by rw [seqK_inj I hl qy]; exact hy⟩, ⟨z2, ?_, ⟨u', v', (sb.2 _ D.TOz).trans t1⟩, s1.1.at fun o q => (sb.2 _ D.i1z).trans q, s2.1.at fun o q => (sb.2 _ D.i2z).trans q⟩, fun c hcm => ?_⟩
    · exact (sb.2 _ D.TIz).trans (hk _ _ D.TIz D.TITO D.TIi1 D.TIi2 hTI)
    · have hlt : c < s.heap.objs.size := by
        simp only [List.mem_cons, List.not_mem_nil, or_false] at hcm
        rcases hcm with rfl | rfl | rfl | rfl | rfl
        · exact zl
        · exact Heap.lt_size hTI
        · exact Heap.lt_size hTO
        · obtain ⟨_, e, _⟩ := g1.obj
          exact Heap.lt_size e
        · obtain ⟨_, e, _⟩ := g2.obj
          exact Heap.lt_size e
      rw [upd_ne (Nat.ne_of_lt hlt)]
      exact (hf c hcm).1
  done := by
    intro X hP hw hK hc i pins s σ H E I hf st hg
    subst hP hw hK
    obtain ⟨hz, hTI, ⟨x0, y0, hTO⟩, g1, g2⟩ := st
    obtain ⟨xs, ys, qx, qy, lx, ly, hend⟩ := hg
    obtain ⟨us, ru, pu, _⟩ := seqK I qx
    obtain ⟨vs, rv, pv, _⟩ := seqK I qy
    have e1 := ru.length
    have e2 := rv.length
    have hh : X.A.in1.handled = none := I.ok.hd hc
    have d1 := drK (prog := X.prog) (w := X.w) (A := X.A.in1) k1 hh D.l1i1 us.toArray
    have d2 := drK (prog := X.prog) (w := X.w) (A := X.A.in1) k2 hh D.l2i2 vs.toArray
    refine wpAny_pyNext_zipD2_end (sepK D) d1 d2 hz hTI hTO ⟨g1, pu⟩ ⟨g2, pv⟩ (by simp; omega) (by simp; omega) (by simp; omega) fun h' tk hk => ⟨rfl, I.turnedL (t' := tk) (ch := [z, TI, TO, i1, i2]) (fun c o hb q => ?_) hf⟩
    simp only [List.mem_cons, List.not_mem_nil, or_false, not_or] at hb
    exact hk c o hb.1 hb.2.2.1 hb.2.2.2.1 hb.2.2.2.2 q
  self := fun A i s Q E st h => wpAny_pyIter_zip st.1 h
/-- zip(e, e2): the kinds told -/
def iZipF (k1 k2 : Bool) (K : PySem.W.Frag) (ta : TA) : TI := fun σ H R => ta σ H fun vs H1 => ∃ a b xs ys, vs = [.ref a, .ref b] ∧ SqK k1 K H1 a xs ∧ SqK k2 K H1 b ys ∧ R (ItzF k1 k2 K a b) H1
theorem pi_zipF (k1 k2 : Bool) {X : Cx} {K : PySem.W.Frag} (hK : X.K = K) {e e2 : Expr} {ta : TA} {p pos tpos : Pos} {elts : List Expr} {kk : Nat} (hg : Gl X "zip") (hm : X.mg "zip" = none) (ha : PA X [e, e2] ta)
    (hs : starEach [e, e2] X.env = (false, eval e X.env) :: starEach [e2] X.env := by rfl) (hpl : (backTo pos (starEach [e2] X.env)).any (·.1) = false := by rfl) :
    PI X (.Tuple elts kk tpos) (.Call (.Name "zip" p) [e, e2] [] pos) (iZipF k1 k2 K ta) := by
  subst hK
  refine ⟨fun pins s σ H R I h => Call_ (ld_blt I hg hm PyProof.Rows.boot_zip (PyProof.Rows.callWith_type1 (thn (ha.run pos pins s σ H _ I h) fun us s1 hh => ?_) hs hpl))⟩
  obtain ⟨vs, H1, I1, r1, a, b, xs, ys, rfl, qx, qy, q⟩ := hh
  obtain ⟨u1, u2, rfl, ru, rv⟩ := vals2 r1
  cases (show u1 = Value.ref a from ru)
  cases (show u2 = Value.ref b from rv)
  obtain ⟨us, _, pu, _⟩ := seqK I1 qx
  obtain ⟨ws, _, pw, _⟩ := seqK I1 qy
  refine zip_begins2 (bgK k1 a us.toArray) (bgK k2 b ws.toArray) pu pw fun h' hz hTI hTO o1 o2 hsz hk => wpAny_pyIter_zip hz ?_
  have J : Inv X pins σ H1 { s1 with heap := h' } := I1.kept (t' := s1.toks) hk
  exact ⟨_, [s1.heap.objs.size + 4, s1.heap.objs.size + 2, s1.heap.objs.size + 3, s1.heap.objs.size, s1.heap.objs.size + 1], _, _, H1, rfl, J, turnF (PySem.W.ktu_apart s1.heap.objs.size a b pu.lt pw.lt), ⟨hz, hTI, ⟨_, _, hTO⟩, itK0 o1, itK0 o2⟩, fresh5 I1, q⟩
theorem meets_enumerate_newT (l : Addr) (items : Array Value) (n : Nat) (dct : Option Addr) (sl : Array (Option Value)) :
    Meets (Builtin.«enumerate.__new__» ⟨[.type "enumerate", .ref l], []⟩) (fun _ R s => s.heap.get? l = some { cls := .type "tuple", dict := dct, data := .seq items n, slots := sl } ∧
      R (.ok (.ret (.ref (s.heap.push { cls := .type "tuple_iterator", data := .fields #[.ref l, .int 0 0] }).objs.size)))
        { s with heap := (s.heap.push { cls := .type "tuple_iterator", data := .fields #[.ref l, .int 0 0] }).push { cls := .type "enumerate", data := .fields #[.none, .bool false, .ref s.heap.objs.size, rawInt 0, .none, .none] } }) :=
  .of_wp fun prog w A R s h => by
    obtain ⟨hp, g, d, tk, os⟩ := s; obtain ⟨hl, h⟩ := h
    have hsub := sub_enumerate
    have hL : Heap.IsTuple (Shared.heap ⟨hp, g, d, tk, os⟩) l items := ⟨_, hl, rfl, n, rfl⟩
    wp_walk using AutoSeq1.wpAny_loadPart' hl
    refine wpAny_stack_any fun st => wpAny_pure ?_
    split
    · rename_i c _ _ _ _ _
      cases (c == Value.type "enumerate")
      · wp_walk using AutoSeq1.wpAny_loadPart' hl, wpAny_pyIter_tuple hL
        exact ⟨_, rfl, h⟩
      · wp_walk using AutoSeq1.wpAny_loadPart' hl, wpAny_pyIter_tuple hL
        exact ⟨_, rfl, h⟩
    · wp_walk using AutoSeq1.wpAny_loadPart' hl, wpAny_pyIter_tuple hL
      exact ⟨_, rfl, h⟩
theorem call_enumerate_tup {prog : Program} {w : World} {A : Around} {E : Value → Shared → Prop} {s : Shared} {l : Addr} {items : Array Value} {Q : Value → Shared → Prop} (hL : s.heap.IsTuple l items)
    (h : ∀ h', IsEnum h' (s.heap.objs.size + 1) s.heap.objs.size 0 .none → h'.IsTupleIter s.heap.objs.size l 0 → h'.objs.size = s.heap.objs.size + 2 →
      (∀ b o, s.heap.get? b = some o → h'.get? b = some o) → Q (.ref (s.heap.objs.size + 1)) { s with heap := h' }) :
    wpAny (model prog w) A (call (.type "enumerate") [.ref l]) Q E s := by
  obtain ⟨⟨c, dct, dt, sl⟩, hl, hc, n, hd⟩ := hL
  replace hc : c = .type "tuple" := hc
  replace hd : dt = .seq items n := hd
  subst hc hd
  refine callType_new F.called_enumerate (by decide) (F.typeCall_enumerate_1 _) (F.newCall_enumerate_1 _) (fun obj => F.args_object_init_2 obj _) F.entry_enumerate_new
    (meets_enumerate_newT l items n dct sl) ⟨hl, ?_⟩
  have hz : (s.heap.push { cls := .type "tuple_iterator", data := .fields #[.ref l, .int 0 0] }).objs.size = s.heap.objs.size + 1 := Heap.size_push ..
  show _ ∧ _
  rw [hz]
  have he : IsEnum ((s.heap.push { cls := .type "tuple_iterator", data := .fields #[.ref l, .int 0 0] }).push { cls := .type "enumerate", data := .fields #[.none, .bool false, .ref s.heap.objs.size, rawInt 0, .none, .none] }) (s.heap.objs.size + 1) s.heap.objs.size 0 .none := by
    have := Heap.get?_push_size (s.heap.push { cls := .type "tuple_iterator", data := .fields #[.ref l, .int 0 0] }) (o := { cls := .type "enumerate", data := .fields #[.none, .bool false, .ref s.heap.objs.size, rawInt 0, .none, .none] }) rfl
    rw [hz] at this; exact this
  have hi : ((s.heap.push { cls := .type "tuple_iterator", data := .fields #[.ref l, .int 0 0] }).push { cls := .type "enumerate", data := .fields #[.none, .bool false, .ref s.heap.objs.size, rawInt 0, .none, .none] }).get? s.heap.objs.size = some { cls := .type "tuple_iterator", data := .fields #[.ref l, .int 0 0] } := Heap.get?_push_of_some _ (Heap.get?_push_size _ rfl)
  exact ⟨⟨_, he, rfl⟩, h _ he ⟨_, hi, rfl, rfl⟩ (by rw [Heap.size_push, hz]) fun b o x => Heap.get?_push_of_some _ (Heap.get?_push_of_some _ x)⟩
def IteF (k : Bool) (K : PySem.W.Frag) (a : Addr) : It :=
  ⟨fun i H => ∃ (xs : List V) (x : V), SqK k K H a xs ∧ xs[i]? = some x, fun i H v H' => ∃ T x o, v = .ref T ∧ H T = none ∧ TpO o [.int (i : Nat), x] ∧ H' = upd H T o ∧ ∀ xs, SqK k K H a xs → xs[i]? = some x, fun i H => ∃ xs : List V, SqK k K H a xs ∧ i = xs.length⟩
theorem turn_enumF {P : Program} {w : World} {K : PySem.W.Frag} {elts : List Expr} {kk : Nat} {tpos : Pos} {k : Bool} (a e it : Addr) (hae : a ≠ e) (hai : a ≠ it) :
    Turn P w K (.Tuple elts kk tpos) (IteF k K a) [e, it] e (fun i h => (∃ old, IsEnum h e it ((i : Nat) : Int) old) ∧ ItK k h it a i ∧ e ≠ it) where
  mem := by simp
  obj := fun i h st b hb => by
    obtain ⟨⟨old, he⟩, hi, _⟩ := st
    have e' : b = e ∨ b = it := by simpa using hb
    rcases e' with z | z
    · rw [z]; exact ⟨_, he, fun v q => nomatch q⟩
    · rw [z]; exact hi.obj
  keep := fun i h h' st k => let ⟨⟨old, he⟩, hi, hne⟩ := st; ⟨⟨old, k e (by simp) _ he⟩, hi.at fun o q => k it (by simp) o q, hne⟩
  item := by
    intro X hP hw hK hc i pins s σ H E I hf st hg
    subst hP hw hK
    obtain ⟨⟨old, he⟩, hit, hne⟩ := st
    obtain ⟨xs, x, hq, hx⟩ := hg
    obtain ⟨its, rv, p, hz⟩ := seqK I hq
    obtain ⟨u, hu, ru⟩ := rv.get hx
    have hel : e < s.heap.objs.size := Heap.lt_size he
    have hil : it < s.heap.objs.size := by obtain ⟨_, q, _⟩ := hit.obj; exact Heap.lt_size q
    have hh : X.A.in1.handled = none := I.ok.hd hc
    have lu : i < its.toArray.size := by simpa using (List.getElem?_eq_some_iff.mp hu).1
    have d1 := drK (prog := X.prog) (w := X.w) (A := X.A.in1) k hh hai its.toArray
    refine wpAny_pyNext_enum_itemC d1 he ⟨hit, p⟩ lu hne (by simp [hne, Ne.symm hae]) fun u' h' tk eu ho st' hT hsz hk => ?_
    have eu' : u' = u := by
      have : its.toArray[i]? = some u := by simpa using hu
      rw [this] at eu
      exact (Option.some.inj eu).symm
    subst eu'
    refine ⟨_, rfl, wpAny_letOwnedTupleGo_enum (s := { s with heap := h', toks := tk + 1 }) ho fun h'' he' sb => ?_⟩
    have hT2 : h''.get? s.heap.objs.size = some { cls := .type "tuple", data := .seq #[.int i tk, u'] } := (sb.2 _ (Nat.ne_of_gt hel)).trans hT
    have new : ObjOk X.prog X.w (upd H s.heap.objs.size (.frz { cls := .type "tuple", data := .seq #[.int i tk, u'] } (.tup [.int (i : Nat), x]))) h'' s.heap.objs.size (.frz { cls := .type "tuple", data := .seq #[.int i tk, u'] } (.tup [.int (i : Nat), x])) :=
      ⟨hT2, by show 2 ≤ sizeLine; decide, [.int i tk, u'], .cons ⟨_, rfl⟩ (.cons ru .nil), ⟨_, hT2, rfl, _, rfl⟩⟩
    have I1 : Inv X pins σ (upd H s.heap.objs.size (.frz { cls := .type "tuple", data := .seq #[.int i tk, u'] } (.tup [.int (i : Nat), x]))) { s with heap := h'', toks := tk + 1 } :=
      I.turnedNew (t' := tk + 1) (ch := [e, it]) (fun b ob hb q => (sb.2 b (fun z => hb (by simp [z]))).trans (hk b ob (fun z => hb (by simp [z])) (fun z => hb (by simp [z])) q)) hf (Nat.le_refl _) new
    refine ⟨.ref s.heap.objs.size, _, I1, rfl, ⟨_, x, _, rfl, I.hok.fresh (Nat.le_refl _), ⟨_, rfl, rfl⟩, rfl, fun ys hy => by rw [seqK_inj I hy hq]; exact hx⟩, ⟨⟨u', ?_⟩, st'.1.at fun o q => (sb.2 it (Ne.symm hne)).trans q, hne⟩, fun b hb => ?_⟩
    · have e1 : ((i + 1 : Nat) : Int) = (i : Int) + 1 := by omega
      rw [e1]; exact he'
    · have hb' : b < s.heap.objs.size := by
        have e' : b = e ∨ b = it := by simpa using hb
        rcases e' with z | z
        · rw [z]; exact hel
        · rw [z]; exact hil
      rw [upd_ne (Nat.ne_of_lt hb')]
      exact (hf b hb).1
  done := by
    intro X hP hw hK hc i pins s σ H E I hf st hg
    subst hP hw hK
    obtain ⟨⟨old, he⟩, hit, hne⟩ := st
    obtain ⟨xs, hq, rfl⟩ := hg
    obtain ⟨its, rv, p, hz⟩ := seqK I hq
    have hl := rv.length
    have hh : X.A.in1.handled = none := I.ok.hd hc
    have d1 := drK (prog := X.prog) (w := X.w) (A := X.A.in1) k hh hai its.toArray
    have hs : StK k it a its.toArray its.toArray.size s.heap := by
      rw [List.size_toArray, ← hl]
      exact ⟨hit, p⟩
    refine wpAny_pyNext_enum_endD d1 he hs fun h' eb => ⟨rfl, I.turnedL (t' := s.toks) (ch := [e, it]) (fun b o hb q => eb b o (fun z => hb (by simp [z])) q) hf⟩
  self := fun A i s Q E st h => let ⟨⟨_, he⟩, _⟩ := st; wpAny_pyIter_enum he h
def iEnumF (k : Bool) (K : PySem.W.Frag) (ta : TA) : TI := fun σ H R => ta σ H fun vs H1 => ∃ a xs, vs = [.ref a] ∧ SqK k K H1 a xs ∧ R (IteF k K a) H1
theorem pi_enumF (k : Bool) {X : Cx} {K : PySem.W.Frag} (hK : X.K = K) {e : Expr} {ta : TA} {p pos tpos : Pos} {elts : List Expr} {kk : Nat} (hg : Gl X "enumerate") (hm : X.mg "enumerate" = none) (ha : PA X [e] ta) (hs : starEach [e] X.env = [(false, eval e X.env)] := by rfl) :
    PI X (.Tuple elts kk tpos) (.Call (.Name "enumerate" p) [e] [] pos) (iEnumF k K ta) := by
  subst hK
  refine ⟨fun pins s σ H R I h => ?_⟩
  refine Call_ (ld_blt I hg hm boot_enumerate (PyProof.Rows.callWith_type1 (thn (ha.run pos pins s σ H _ I h) fun us s1 ⟨vs, H1, I1, r1, q1⟩ => ?_) hs rfl))
  obtain ⟨a, xs, ex, hq, q⟩ := q1
  subst ex
  cases r1 with
  | cons r rr =>
    cases rr
    cases r
    obtain ⟨its, rv, p', hz⟩ := seqK I1 hq
    have fin : ∀ h', IsEnum h' (s1.heap.objs.size + 1) s1.heap.objs.size 0 .none → ItK k h' s1.heap.objs.size a 0 → (∀ b o, s1.heap.get? b = some o → h'.get? b = some o) →
        wpAny (model X.prog X.w) X.A (pyIter (.ref (s1.heap.objs.size + 1))) (PIE X pins σ (.Tuple elts kk tpos) R) X.xe { s1 with heap := h' } := fun h' he hit hk => wpAny_pyIter_enum he (by
      have I2 : Inv X pins σ H1 { s1 with heap := h' } := I1.kept (t' := s1.toks) hk
      have la : a < s1.heap.objs.size := p'.lt
      refine ⟨s1.heap.objs.size + 1, [s1.heap.objs.size + 1, s1.heap.objs.size], _, _, H1, rfl, I2, turn_enumF a (s1.heap.objs.size + 1) s1.heap.objs.size (Nat.ne_of_lt (Nat.lt_succ_of_lt la)) (Nat.ne_of_lt la), ⟨⟨.none, he⟩, hit, Nat.succ_ne_self _⟩, fun b hb => ?_, q⟩
      have e' : b = s1.heap.objs.size + 1 ∨ b = s1.heap.objs.size := by simpa using hb
      have hle : s1.heap.objs.size ≤ b := by
        rcases e' with z | z
        · rw [z]; exact Nat.le_add_right _ _
        · rw [z]; exact Nat.le_refl _
      exact I1.fpOk hle (I1.hok.fresh hle))
    cases k with
    | true => exact call_enumerate_tup p' fun h' he hit hsz hk => fin h' he hit hk
    | false => exact call_enumerate_list p' fun h' he hit hsz hk => fin h' he hit hk
inductive Dat where
  | non | bl (b : Bool) | int (i : Int) | str (x : Str) | pool
  | lst (xs : List Dat) | tup (xs : List Dat)
  | obj (k : Nat) (ds : List Dat)
  | dK (kvs : List (Key × Dat))
  | cell (a : Addr)
/-- what stays as it is through a law: the written part, the pool and its copy of the script -/
structure Wd where
  K : PySem.W.Frag
  ca : Nat → Addr
  po : Option (Addr × Addr)
/-- the attributes of the objects of each class, by the class's number -/
def clsN : Nat → List Str
  | 0 => ["p", "q", "bases"]
  | 1 => ["unknowns", "equations"]
  | 2 => ["statement", "choices"]
  | 3 => ["name", "fields"]
  | 4 => ["kind", "element", "first", "drawn", "state"]
  | 5 => ["name", "group", "kinds", "book", "_requests"]
  | 6 => ["group", "secret", "holdings"]
  | 7 => ["row", "randomness", "numbers"]
  | 8 => ["cards", "conditions"]
  | 9 => ["group", "kinds", "policy", "rows"]
  | 15 => ["words", "at"]
  | 16 => ["_group", "_fresh", "_told", "_claim", "_witness", "_tape"]
  | 17 => ["state", "_question", "_claim", "_first", "_drawn"]
  | _ => []
/-- a tuple that stays as it is: it is among the settled objects, or it is written -/
def FzT (_ : Wd) (F : Addr → Prop) (H : Hp) (a : Addr) (vs : List V) : Prop := F a ∧ ∃ o, H a = some o ∧ TpO o vs
theorem FzT.sq {W : Wd} {F : Addr → Prop} {H : Hp} {a : Addr} {vs : List V} (h : FzT W F H a vs) : SqT W.K H a vs := by
  obtain ⟨_, o, e, t⟩ := h
  exact t.sq e
mutual
inductive Rv (W : Wd) (F : Addr → Prop) (H : Hp) : V → Dat → Prop
  | non : Rv W F H .non .non
  | bl (b : Bool) : Rv W F H (.bl b) (.bl b)
  | int (i : Int) : Rv W F H (.int i) (.int i)
  | str (x : Str) : Rv W F H (.str x) (.str x)
  | pool {p c : Addr} : W.po = some (p, c) → Rv W F H (.ref p) .pool
  | lst {a : Addr} {vs : List V} {ds : List Dat} : F a → H a = some (.lst vs) → RvAll W F H vs ds → Rv W F H (.ref a) (.lst ds)
  | tup {a : Addr} {vs : List V} {ds : List Dat} : FzT W F H a vs → RvAll W F H vs ds → Rv W F H (.ref a) (.tup ds)
  | obj {a dx : Addr} {k : Nat} {fs : List (Str × V)} {ds : List Dat} : F a → H a = some (.ins (W.ca k) dx fs) → RvFs W F H fs (clsN k) ds → (∀ m, m ∉ clsN k → fs.lookup m = none) → Rv W F H (.ref a) (.obj k ds)
  | dK {a : Addr} {kvs : List (Key × V)} {kds : List (Key × Dat)} : F a → H a = some (.dK kvs) → RvKv W F H kvs kds → Rv W F H (.ref a) (.dK kds)
  | cell (a : Addr) : Rv W F H (.ref a) (.cell a)
inductive RvAll (W : Wd) (F : Addr → Prop) (H : Hp) : List V → List Dat → Prop
  | nil : RvAll W F H [] []
  | cons {v : V} {vs : List V} {d : Dat} {ds : List Dat} : Rv W F H v d → RvAll W F H vs ds → RvAll W F H (v :: vs) (d :: ds)
inductive RvFs (W : Wd) (F : Addr → Prop) (H : Hp) : List (Str × V) → List Str → List Dat → Prop
  | nil {fs : List (Str × V)} : RvFs W F H fs [] []
  | cons {fs : List (Str × V)} {k : Str} {v : V} {d : Dat} {ks : List Str} {ds : List Dat} : fs.lookup k = some v → Rv W F H v d → RvFs W F H fs ks ds → RvFs W F H fs (k :: ks) (d :: ds)
inductive RvKv (W : Wd) (F : Addr → Prop) (H : Hp) : List (Key × V) → List (Key × Dat) → Prop
  | nil : RvKv W F H [] []
  | cons {k : Key} {v : V} {kvs : List (Key × V)} {d : Dat} {kds : List (Key × Dat)} : Rv W F H v d → RvKv W F H kvs kds → RvKv W F H ((k, v) :: kvs) ((k, d) :: kds)
end
/-- more is settled, what was settled stands as it was -/
def Sub (F : Addr → Prop) (H : Hp) (F' : Addr → Prop) (H' : Hp) : Prop := ∀ a, F a → F' a ∧ H' a = H a
theorem FzT.sub {W : Wd} {F F' : Addr → Prop} {H H' : Hp} {a : Addr} {vs : List V} (s : Sub F H F' H') (h : FzT W F H a vs) : FzT W F' H' a vs := by
  obtain ⟨f, o, e, t⟩ := h
  exact ⟨(s a f).1, o, (s a f).2.trans e, t⟩
section
variable {W : Wd} {F F' : Addr → Prop} {H H' : Hp}
mutual
theorem Rv.sub (s : Sub F H F' H') : ∀ {v : V} {d : Dat}, Rv W F H v d → Rv W F' H' v d
  | _, _, .non => .non
  | _, _, .bl b => .bl b
  | _, _, .int i => .int i
  | _, _, .str x => .str x
  | _, _, .pool h => .pool h
  | _, _, .lst f h r => .lst (s _ f).1 ((s _ f).2.trans h) (RvAll.sub s r)
  | _, _, .tup h r => .tup (h.sub s) (RvAll.sub s r)
  | _, _, .obj f h r n => .obj (s _ f).1 ((s _ f).2.trans h) (RvFs.sub s r) n
  | _, _, .dK f h r => .dK (s _ f).1 ((s _ f).2.trans h) (RvKv.sub s r)
  | _, _, .cell a => .cell a
theorem RvAll.sub (s : Sub F H F' H') : ∀ {vs : List V} {ds : List Dat}, RvAll W F H vs ds → RvAll W F' H' vs ds
  | _, _, .nil => .nil
  | _, _, .cons a r => .cons (Rv.sub s a) (RvAll.sub s r)
theorem RvFs.sub (s : Sub F H F' H') : ∀ {vs : List (Str × V)} {ks : List Str} {ds : List Dat}, RvFs W F H vs ks ds → RvFs W F' H' vs ks ds
  | _, _, _, .nil => .nil
  | _, _, _, .cons e a r => .cons e (Rv.sub s a) (RvFs.sub s r)
theorem RvKv.sub (s : Sub F H F' H') : ∀ {vs : List (Key × V)} {ds : List (Key × Dat)}, RvKv W F H vs ds → RvKv W F' H' vs ds
  | _, _, .nil => .nil
  | _, _, .cons a r => .cons (Rv.sub s a) (RvKv.sub s r)
end
theorem RvAll.length : ∀ {vs : List V} {ds : List Dat}, RvAll W F H vs ds → vs.length = ds.length
  | _, _, .nil => rfl
  | _, _, .cons _ r => congrArg (· + 1) (RvAll.length r)
theorem RvAll.get : ∀ {vs : List V} {ds : List Dat} {i : Nat} {d : Dat}, RvAll W F H vs ds → ds[i]? = some d → ∃ v, vs[i]? = some v ∧ Rv W F H v d
  | _, _, _, _, .nil, e => by simp at e
  | _, _, 0, _, .cons a _, e => by
    simp only [List.getElem?_cons_zero, Option.some.injEq] at e
    subst e
    exact ⟨_, rfl, a⟩
  | _, _, i + 1, _, .cons _ r, e => by
    simp only [List.getElem?_cons_succ] at e
    obtain ⟨v, h1, h2⟩ := RvAll.get (i := i) r e
    exact ⟨v, h1, h2⟩
theorem RvAll.getV : ∀ {vs : List V} {ds : List Dat} {i : Nat} {v : V}, RvAll W F H vs ds → vs[i]? = some v → ∃ d, ds[i]? = some d ∧ Rv W F H v d
  | _, _, _, _, .nil, e => by simp at e
  | _, _, 0, _, .cons a _, e => by
    simp only [List.getElem?_cons_zero, Option.some.injEq] at e
    subst e
    exact ⟨_, rfl, a⟩
  | _, _, i + 1, _, .cons _ r, e => by
    simp only [List.getElem?_cons_succ] at e
    obtain ⟨d, h1, h2⟩ := RvAll.getV (i := i) r e
    exact ⟨d, h1, h2⟩
theorem RvAll.append : ∀ {vs ws : List V} {ds es : List Dat}, RvAll W F H vs ds → RvAll W F H ws es → RvAll W F H (vs ++ ws) (ds ++ es)
  | _, _, _, _, .nil, s => s
  | _, _, _, _, .cons a r, s => .cons a (RvAll.append r s)
theorem RvAll.take : ∀ {vs : List V} {ds : List Dat} (n : Nat), RvAll W F H vs ds → RvAll W F H (vs.take n) (ds.take n)
  | _, _, 0, _ => .nil
  | _, _, _ + 1, .nil => .nil
  | _, _, n + 1, .cons a r => .cons a (RvAll.take n r)
theorem RvAll.drop : ∀ {vs : List V} {ds : List Dat} (n : Nat), RvAll W F H vs ds → RvAll W F H (vs.drop n) (ds.drop n)
  | _, _, 0, r => r
  | _, _, _ + 1, .nil => .nil
  | _, _, n + 1, .cons _ r => RvAll.drop n r
theorem RvAll.set : ∀ {vs : List V} {ds : List Dat} {v : V} {d : Dat} (n : Nat), RvAll W F H vs ds → Rv W F H v d → RvAll W F H (vs.set n v) (ds.set n d)
  | _, _, _, _, _, .nil, _ => .nil
  | _, _, _, _, 0, .cons _ r, q => .cons q r
  | _, _, _, _, n + 1, .cons a r, q => .cons a (RvAll.set n r q)
theorem RvAll.ints : ∀ {vs : List V} {ns : List Int}, RvAll W F H vs (ns.map Dat.int) → vs = ns.map V.int
  | _, [], .nil => rfl
  | _, n :: ns, .cons a r => by
    rw [RvAll.ints r]
    cases a
    rfl
theorem RvAll.strs : ∀ {vs : List V} {ns : List Str}, RvAll W F H vs (ns.map Dat.str) → vs = ns.map V.str
  | _, [], .nil => rfl
  | _, n :: ns, .cons a r => by
    rw [RvAll.strs r]
    cases a
    rfl
theorem RvAll.bls : ∀ {vs : List V} {ns : List Bool}, RvAll W F H vs (ns.map Dat.bl) → vs = ns.map V.bl
  | _, [], .nil => rfl
  | _, n :: ns, .cons a r => by
    rw [RvAll.bls r]
    cases a
    rfl
theorem RvFs.get : ∀ {fs : List (Str × V)} {ks : List Str} {ds : List Dat} {i : Nat} {k : Str} {d : Dat}, RvFs W F H fs ks ds → ks[i]? = some k → ds[i]? = some d → ∃ v, fs.lookup k = some v ∧ Rv W F H v d
  | _, _, _, _, _, _, .nil, e, _ => by simp at e
  | _, _, _, 0, _, _, .cons e1 a r, e, e2 => by
    simp only [List.getElem?_cons_zero, Option.some.injEq] at e e2
    subst e
    subst e2
    exact ⟨_, e1, a⟩
  | _, _, _, i + 1, _, _, .cons e1 a r, e, e2 => by
    simp only [List.getElem?_cons_succ] at e e2
    exact RvFs.get (i := i) r e e2
end
structure Okk (W : Wd) (F : Addr → Prop) (H : Hp) : Prop where
  tr : ∀ a, F a → H a ≠ none
  po : ∀ p c, W.po = some (p, c) → PoolAt H p c ∧ ¬ F p ∧ ¬ F c
/-- not the pool -/
def NPo (W : Wd) (a : Addr) : Prop := ∀ p c, W.po = some (p, c) → a ≠ p
structure Ext (W : Wd) (F : Addr → Prop) (H : Hp) (F' : Addr → Prop) (H' : Hp) : Prop where
  up : ∀ a, F a → F' a
  dn : ∀ a, F' a → F a ∨ H a = none
  kp : ∀ a o, H a = some o → NPo W a → H' a = some o
  ok : Okk W F' H'
theorem Okk.np {W : Wd} {F : Addr → Prop} {H : Hp} (k : Okk W F H) {a : Addr} (f : F a) : NPo W a := fun p c e z => by
  subst z
  exact (k.po _ _ e).2.1 f
theorem Ext.sub {W : Wd} {F F' : Addr → Prop} {H H' : Hp} (k : Okk W F H) (x : Ext W F H F' H') : Sub F H F' H' := fun a f => by
  refine ⟨x.up a f, ?_⟩
  cases e : H a with
  | none => exact absurd e (k.tr a f)
  | some o => exact x.kp a o e (k.np f)
theorem Ext.refl {W : Wd} {F : Addr → Prop} {H : Hp} (k : Okk W F H) : Ext W F H F H := ⟨fun _ f => f, fun _ f => .inl f, fun _ _ e _ => e, k⟩
theorem Ext.there {W : Wd} {F F' : Addr → Prop} {H H' : Hp} (k : Okk W F H) (x : Ext W F H F' H') {a : Addr} (h : H' a = none) : H a = none := by
  cases e : H a with
  | none => rfl
  | some o =>
    by_cases z : ∃ p c, W.po = some (p, c) ∧ a = p
    · obtain ⟨p, c, e1, rfl⟩ := z
      obtain ⟨⟨_, _, _, _, _, _, q, _⟩, _⟩ := x.ok.po _ _ e1
      rw [q] at h
      cases h
    · rw [x.kp a o e (fun p c e1 e2 => z ⟨p, c, e1, e2⟩)] at h
      cases h
theorem Ext.trans {W : Wd} {F F' F2 : Addr → Prop} {H H' H2 : Hp} (k : Okk W F H) (x : Ext W F H F' H') (y : Ext W F' H' F2 H2) : Ext W F H F2 H2 :=
  ⟨fun a f => y.up a (x.up a f), fun a f => by
    rcases y.dn a f with z | z
    · exact x.dn a z
    · exact .inr (x.there k z), fun a o e n => y.kp a o (x.kp a o e n) n, y.ok⟩
theorem Okk.pne {W : Wd} {F : Addr → Prop} {H : Hp} (k : Okk W F H) {a : Addr} (n : H a = none) : ∀ p c, W.po = some (p, c) → a ≠ p ∧ a ≠ c := fun p c e => by
  obtain ⟨⟨ns, i, m, s, b, z, h1, h2, _⟩, _⟩ := k.po p c e
  exact ⟨(ne_of_none h1 n).symm, (ne_of_none h2 n).symm⟩
/-- a new object, settled at once -/
theorem Ext.new {W : Wd} {F : Addr → Prop} {H : Hp} (k : Okk W F H) {a : Addr} {o : HO} (n : H a = none) : Ext W F H (fun b => F b ∨ b = a) (upd H a o) := by
  refine ⟨fun _ f => .inl f, fun b f => ?_, fun b u e _ => ?_, ⟨fun b f => ?_, fun p c e => ?_⟩⟩
  · rcases f with f | rfl
    · exact .inl f
    · exact .inr n
  · rw [upd_ne (ne_of_none e n)]
    exact e
  · by_cases h : b = a
    · subst h
      rw [upd_same]
      exact fun z => (by cases z)
    · rw [upd_ne h]
      rcases f with f | f
      · exact k.tr b f
      · exact absurd f h
  · obtain ⟨h1, h2, h3⟩ := k.po p c e
    have ne := k.pne n p c e
    refine ⟨h1.mut ne.1 ne.2, fun f => ?_, fun f => ?_⟩
    · rcases f with f | f
      · exact h2 f
      · exact ne.1 f.symm
    · rcases f with f | f
      · exact h3 f
      · exact ne.2 f.symm
/-- a new object that is not settled yet -/
theorem Ext.lay {W : Wd} {F : Addr → Prop} {H : Hp} (k : Okk W F H) {a : Addr} {o : HO} (n : H a = none) : Ext W F H F (upd H a o) := by
  refine ⟨fun _ f => f, fun b f => .inl f, fun b u e _ => ?_, ⟨fun b f => ?_, fun p c e => ?_⟩⟩
  · rw [upd_ne (ne_of_none e n)]
    exact e
  · have h : b ≠ a := fun z => k.tr b f (by rw [z]; exact n)
    rw [upd_ne h]
    exact k.tr b f
  · obtain ⟨h1, h2, h3⟩ := k.po p c e
    have ne := k.pne n p c e
    exact ⟨h1.mut ne.1 ne.2, h2, h3⟩
/-- what a slot of a frame holds: nothing that is asked, data, a list of the def's own that it still changes -/
inductive Sl where
  | u
  | d (x : Dat)
  | o (xs : List Dat)
def SlOk (W : Wd) (H0 : Hp) (F : Addr → Prop) (H : Hp) (ov : Option V) : Sl → Prop
  | .u => True
  | .d x => ∃ v, ov = some v ∧ Rv W F H v x
  | .o xs => ∃ a vs, ov = some (.ref a) ∧ ¬ F a ∧ H0 a = none ∧ H a = some (.lst vs) ∧ RvAll W F H vs xs ∧ ∀ p c, W.po = some (p, c) → a ≠ p ∧ a ≠ c
structure Mt (W : Wd) (H0 : Hp) (F : Addr → Prop) (H : Hp) (σ : L2.St) (env : List Sl) : Prop where
  ln : env.length = σ.length
  at_ : ∀ (i : Nat) (s : Sl), env[i]? = some s → ∃ ov, σ[i]? = some ov ∧ SlOk W H0 F H ov s
  own : ∀ (i j : Nat) (xs ys : List Dat) (a : Addr), env[i]? = some (.o xs) → env[j]? = some (.o ys) → σ[i]? = some (some (.ref a)) → σ[j]? = some (some (.ref a)) → i = j
theorem SlOk.ext {W : Wd} {H0 : Hp} {F F' : Addr → Prop} {H H' : Hp} {ov : Option V} (k : Okk W F H) (x : Ext W F H F' H') : ∀ {s : Sl}, SlOk W H0 F H ov s → SlOk W H0 F' H' ov s
  | .u, _ => trivial
  | .d _, ⟨v, e, r⟩ => ⟨v, e, r.sub (x.sub k)⟩
  | .o _, ⟨a, vs, e, nf, n0, h, r, np⟩ => by
    refine ⟨a, vs, e, fun f => ?_, n0, x.kp a _ h (fun p c e z => (np p c e).1 z), r.sub (x.sub k), np⟩
    rcases x.dn a f with z | z
    · exact nf z
    · rw [z] at h
      cases h
theorem Mt.ext {W : Wd} {H0 : Hp} {F F' : Addr → Prop} {H H' : Hp} {σ : L2.St} {env : List Sl} (k : Okk W F H) (x : Ext W F H F' H') (m : Mt W H0 F H σ env) : Mt W H0 F' H' σ env :=
  ⟨m.ln, fun i s e => by
    obtain ⟨ov, e1, r⟩ := m.at_ i s e
    exact ⟨ov, e1, r.ext k x⟩, m.own⟩
theorem Mt.setD {W : Wd} {H0 : Hp} {F : Addr → Prop} {H : Hp} {σ : L2.St} {env : List Sl} (m : Mt W H0 F H σ env) (i : Nat) {v : V} {d : Dat} (r : Rv W F H v d) : Mt W H0 F H (σ.set i (some v)) (env.set i (.d d)) := by
  refine ⟨by rw [List.length_set, List.length_set, m.ln], fun j s e => ?_, fun j k xs ys a e1 e2 e3 e4 => ?_⟩
  · by_cases h : j = i
    · subst h
      have hl : j < env.length := by
        have := (List.getElem?_eq_some_iff.mp e).1
        rwa [List.length_set] at this
      rw [List.getElem?_set_self hl] at e
      cases e
      exact ⟨some v, List.getElem?_set_self (by rw [← m.ln]; exact hl), v, rfl, r⟩
    · rw [List.getElem?_set_ne (Ne.symm h)] at e ⊢
      exact m.at_ j s e
  · have n1 : j ≠ i := fun z => by
      subst z
      have hl : j < env.length := by
        have := (List.getElem?_eq_some_iff.mp e1).1
        rwa [List.length_set] at this
      rw [List.getElem?_set_self hl] at e1
      cases e1
    have n2 : k ≠ i := fun z => by
      subst z
      have hl : k < env.length := by
        have := (List.getElem?_eq_some_iff.mp e2).1
        rwa [List.length_set] at this
      rw [List.getElem?_set_self hl] at e2
      cases e2
    rw [List.getElem?_set_ne (Ne.symm n1)] at e1 e3
    rw [List.getElem?_set_ne (Ne.symm n2)] at e2 e4
    exact m.own j k xs ys a e1 e2 e3 e4
abbrev AEx := List Sl → (Dat → Prop) → Prop
abbrev AFr := List Sl → (List Dat → Prop) → Prop
abbrev ATs := List Sl → (Bool → Prop) → Prop
abbrev Rel := Wd → (Addr → Prop) → Hp → V → Dat → Prop
/-- a value that is read, not kept: data, or a list that the def still changes -/
inductive Pk (W : Wd) (F : Addr → Prop) (H : Hp) : V → Dat → Prop
  | rv {v : V} {d : Dat} : Rv W F H v d → Pk W F H v d
  | own {a : Addr} {vs : List V} {ds : List Dat} : H a = some (.lst vs) → NPo W a → RvAll W F H vs ds → Pk W F H (.ref a) (.lst ds)
structure Pst (R : Rel) : Prop where
  run : ∀ {W : Wd} {F F' : Addr → Prop} {H H' : Hp} {v : V} {d : Dat}, Okk W F H → Ext W F H F' H' → R W F H v d → R W F' H' v d
theorem pst_rv : Pst Rv := ⟨fun k x r => r.sub (x.sub k)⟩
theorem pst_pk : Pst Pk := ⟨fun k x r => by
  cases r with
  | rv r => exact .rv (r.sub (x.sub k))
  | own h n r => exact .own (x.kp _ _ h n) n (r.sub (x.sub k))⟩
theorem Pk.lst {W : Wd} {F : Addr → Prop} {H : Hp} {v : V} {ds : List Dat} (k : Okk W F H) (h : Pk W F H v (.lst ds)) : ∃ a vs, v = .ref a ∧ H a = some (.lst vs) ∧ NPo W a ∧ RvAll W F H vs ds := by
  cases h with
  | rv r =>
    cases r with
    | lst f h r => exact ⟨_, _, rfl, h, k.np f, r⟩
  | own h n r => exact ⟨_, _, rfl, h, n, r⟩
structure AEg (R : Rel) (W : Wd) (H0 : Hp) (te : TE) (ae : AEx) : Prop where
  run : ∀ (σ : L2.St) (env : List Sl) (F : Addr → Prop) (H : Hp) (Q : VK) (P : Dat → Prop), Okk W F H → Mt W H0 F H σ env → ae env P → (∀ d F' H' v, P d → Ext W F H F' H' → R W F' H' v d → Q v H') → te σ H Q
abbrev AExp : Wd → Hp → TE → AEx → Prop := AEg Rv
/-- a list that is made anew -/
structure AFrs (W : Wd) (H0 : Hp) (te : TE) (ae : AFr) : Prop where
  run : ∀ (σ : L2.St) (env : List Sl) (F : Addr → Prop) (H : Hp) (Q : VK) (P : List Dat → Prop), Okk W F H → Mt W H0 F H σ env → ae env P →
    (∀ ds F' H' a vs, P ds → Ext W F H F' H' → H a = none → ¬ F' a → H' a = some (.lst vs) → RvAll W F' H' vs ds → Q (.ref a) H') → te σ H Q
structure ATst (W : Wd) (H0 : Hp) (tt : TT) (at_ : ATs) : Prop where
  run : ∀ (σ : L2.St) (env : List Sl) (F : Addr → Prop) (H : Hp) (Q : Bool → Hp → Prop) (P : Bool → Prop), Okk W F H → Mt W H0 F H σ env → at_ env P → (∀ b F' H', P b → Ext W F H F' H' → Q b H') → tt σ H Q
/-- arguments, n of them -/
structure AArg (W : Wd) (H0 : Hp) (n : Nat) (ta : TA) (aa : AFr) : Prop where
  run : ∀ (σ : L2.St) (env : List Sl) (F : Addr → Prop) (H : Hp) (Q : List V → Hp → Prop) (P : List Dat → Prop), Okk W F H → Mt W H0 F H σ env → aa env P →
    (∀ ds F' H' vs, P ds → Ext W F H F' H' → RvAll W F' H' vs ds → ds.length = n → Q vs H') → ta σ H Q
def dAt : List Sl → Nat → Sl
  | [], _ => .u
  | s :: _, 0 => s
  | _ :: r, i + 1 => dAt r i
theorem dAt_get : ∀ {env : List Sl} {i : Nat} {s : Sl}, dAt env i = s → s ≠ .u → env[i]? = some s
  | [], _, _, e, n => absurd e.symm n
  | s :: _, 0, _, e, _ => congrArg some e
  | _ :: r, i + 1, s, e, n => by
    rw [List.getElem?_cons_succ]
    exact dAt_get (env := r) e n
def dQ : Sl → (Dat → Prop) → Prop
  | .d x, P => P x
  | _, _ => False
def dQ2 : Sl → (Dat → Prop) → Prop
  | .d x, P => P x
  | .o xs, P => P (.lst xs)
  | _, _ => False
def aVar (i : Nat) : AEx := fun env P => dQ (dAt env i) P
def aPeek (i : Nat) : AEx := fun env P => dQ2 (dAt env i) P
def aC (d : Dat) : AEx := fun _ P => P d
section
variable {W : Wd} {H0 : Hp} {te ta tb : TE} {ae ea eb : AEx}
theorem a_var {i : Nat} : AExp W H0 (tVar i) (aVar i) := ⟨fun σ env F H Q P ok m h k => by
  unfold aVar at h
  cases e : dAt env i with
  | d x =>
    rw [e] at h
    obtain ⟨_, e1, v, rfl, r⟩ := m.at_ i _ (dAt_get e (fun z => by cases z))
    exact ⟨v, e1, k x F H v h (.refl ok) r⟩
  | u =>
    rw [e] at h
    exact h.elim
  | o xs =>
    rw [e] at h
    exact h.elim⟩
theorem a_peek {i : Nat} : AEg Pk W H0 (tVar i) (aPeek i) := ⟨fun σ env F H Q P ok m h k => by
  unfold aPeek at h
  cases e : dAt env i with
  | d x =>
    rw [e] at h
    obtain ⟨_, e1, v, rfl, r⟩ := m.at_ i _ (dAt_get e (fun z => by cases z))
    exact ⟨v, e1, k x F H v h (.refl ok) (.rv r)⟩
  | u =>
    rw [e] at h
    exact h.elim
  | o xs =>
    rw [e] at h
    obtain ⟨_, e1, a, vs, rfl, nf, n0, ha, r, np⟩ := m.at_ i _ (dAt_get e (fun z => by cases z))
    exact ⟨_, e1, k _ F H _ h (.refl ok) (.own ha (fun p c e => (np p c e).1) r)⟩⟩
theorem a_pk (h : AExp W H0 te ae) : AEg Pk W H0 te ae := ⟨fun σ env F H Q P ok m q k => h.run σ env F H Q P ok m q fun d F' H' v p x r => k d F' H' v p x (.rv r)⟩
theorem a_int {i : Int} : AExp W H0 (tC (.int i)) (aC (.int i)) := ⟨fun _ _ F H _ _ ok _ h k => k _ F H _ h (.refl ok) (.int i)⟩
theorem a_bl {b : Bool} : AExp W H0 (tC (.bl b)) (aC (.bl b)) := ⟨fun _ _ F H _ _ ok _ h k => k _ F H _ h (.refl ok) (.bl b)⟩
theorem a_str {x : Str} : AExp W H0 (tC (.str x)) (aC (.str x)) := ⟨fun _ _ F H _ _ ok _ h k => k _ F H _ h (.refl ok) (.str x)⟩
theorem a_non : AExp W H0 (tC .non) (aC .non) := ⟨fun _ _ F H _ _ ok _ h k => k _ F H _ h (.refl ok) .non⟩
/-- a new list, settled at once -/
def aFz (ae : AFr) : AEx := fun env P => ae env fun ds => P (.lst ds)
theorem Ext.fz {F F' : Addr → Prop} {H H' : Hp} {a : Addr} {o : HO} (ok : Okk W F H) (x : Ext W F H F' H') (n : H a = none) (h : H' a = some o) : Ext W F H (fun b => F' b ∨ b = a) H' := by
  have tr : ∀ b, (F' b ∨ b = a) → H' b ≠ none := fun b f => by
    rcases f with f | rfl
    · exact x.ok.tr b f
    · rw [h]
      exact fun z => by cases z
  have po : ∀ p c, W.po = some (p, c) → PoolAt H' p c ∧ ¬ (F' p ∨ p = a) ∧ ¬ (F' c ∨ c = a) := fun p c e => by
    obtain ⟨h1, h2, h3⟩ := x.ok.po p c e
    have ne := ok.pne n p c e
    refine ⟨h1, fun f => ?_, fun f => ?_⟩
    · rcases f with f | f
      · exact h2 f
      · exact ne.1 f.symm
    · rcases f with f | f
      · exact h3 f
      · exact ne.2 f.symm
  refine ⟨fun b f => .inl (x.up b f), fun b f => ?_, x.kp, ⟨tr, po⟩⟩
  rcases f with f | rfl
  · exact x.dn b f
  · exact .inr n
theorem sub_fz {F' : Addr → Prop} {H' : Hp} (a : Addr) : Sub F' H' (fun b => F' b ∨ b = a) H' := fun _ f => ⟨.inl f, rfl⟩
theorem a_fz {af : AFr} (h : AFrs W H0 te af) : AExp W H0 te (aFz af) := ⟨fun σ env F H Q P ok m q k => h.run σ env F H Q (fun ds => P (.lst ds)) ok m q fun ds F' H' a vs p x n nf ha r =>
  k (.lst ds) (fun b => F' b ∨ b = a) H' (.ref a) p (x.fz ok n ha) (.lst (.inr rfl) ha (r.sub (sub_fz a)))⟩
def a2 (f : Dat → Dat → (Dat → Prop) → Prop) (ea eb : AEx) : AEx := fun env P => ea env fun x => eb env fun y => f x y P
/-- an operation on values reads as f on data -/
def ROk (W : Wd) (S1 S2 S3 : Rel) (r : L2.R2) (f : Dat → Dat → (Dat → Prop) → Prop) : Prop :=
  ∀ (F : Addr → Prop) (H : Hp) (x y : V) (d e : Dat) (Q : VK) (P : Dat → Prop), Okk W F H → S1 W F H x d → S2 W F H y e → f d e P → (∀ z F' H' v, P z → Ext W F H F' H' → S3 W F' H' v z → Q v H') → r x y H Q
theorem a_op {S1 S2 S3 : Rel} {r : L2.R2} {f : Dat → Dat → (Dat → Prop) → Prop} (pr : Pst S1) (hr : ROk W S1 S2 S3 r f) (ha : AEg S1 W H0 ta ea) (hb : AEg S2 W H0 tb eb) : AEg S3 W H0 (tOp r ta tb) (a2 f ea eb) :=
  ⟨fun σ env F H Q P ok m q k => ha.run σ env F H _ _ ok m q fun d F1 H1 v p1 x1 r1 => hb.run σ env F1 H1 _ _ x1.ok (m.ext ok x1) p1 fun e F2 H2 u p2 x2 r2 =>
    hr F2 H2 v u d e Q P x2.ok (pr.run x1.ok x2 r1) r2 p2 fun z F3 H3 w p3 x3 r3 => k z F3 H3 w p3 ((x1.trans ok x2).trans ok x3) r3⟩
def kI (C : Int → Int → Prop) (g : Int → Int → Dat) : Dat → Dat → (Dat → Prop) → Prop
  | .int i, .int j, P => C i j ∧ P (g i j)
  | _, _, _ => False
def kI0 (g : Int → Int → Dat) : Dat → Dat → (Dat → Prop) → Prop
  | .int i, .int j, P => P (g i j)
  | _, _, _ => False
theorem rok_I {C : Int → Int → Prop} {g : Int → Int → Int} : ROk W Rv Rv Rv (rI C fun i j => .int (g i j)) (kI C fun i j => .int (g i j)) := fun F H x y d e Q P ok r1 r2 q k => by
  cases r1 <;> cases r2 <;> first | exact q.elim | exact ⟨_, _, rfl, rfl, q.1, k _ F H _ q.2 (.refl ok) (.int _)⟩
theorem rok_I0 {g : Int → Int → Int} : ROk W Rv Rv Rv (rI0 fun i j => .int (g i j)) (kI0 fun i j => .int (g i j)) := fun F H x y d e Q P ok r1 r2 q k => by
  cases r1 <;> cases r2 <;> first | exact q.elim | exact ⟨_, _, rfl, rfl, k _ F H _ q (.refl ok) (.int _)⟩
theorem rok_B0 {g : Int → Int → Bool} : ROk W Rv Rv Rv (rI0 fun i j => .bl (g i j)) (kI0 fun i j => .bl (g i j)) := fun F H x y d e Q P ok r1 r2 q k => by
  cases r1 <;> cases r2 <;> first | exact q.elim | exact ⟨_, _, rfl, rfl, k _ F H _ q (.refl ok) (.bl _)⟩
/-- == of two ints, texts, bools or None -/
def kEq (n : Bool) : Dat → Dat → (Dat → Prop) → Prop
  | .int i, .int j, P => P (.bl (if n then !decide (i = j) else decide (i = j)))
  | .str i, .str j, P => P (.bl (if n then !decide (i = j) else decide (i = j)))
  | .bl i, .bl j, P => P (.bl (if n then !decide (i = j) else decide (i = j)))
  | .non, .non, P => P (.bl (!n))
  | .non, .int _, P => P (.bl n)
  | .non, .bl _, P => P (.bl n)
  | .non, .str _, P => P (.bl n)
  | .int _, .non, P => P (.bl n)
  | .bl _, .non, P => P (.bl n)
  | .str _, .non, P => P (.bl n)
  | .int _, .str _, P => P (.bl n)
  | .str _, .int _, P => P (.bl n)
  | .bl _, .str _, P => P (.bl n)
  | .str _, .bl _, P => P (.bl n)
  | _, _, _ => False
theorem dec_i {i j : Int} : decide (V.int i = V.int j) = decide (i = j) := by
  by_cases h : i = j
  · subst h; simp
  · rw [decide_eq_false h, decide_eq_false (fun z => h (V.int.inj z))]
theorem dec_s {i j : Str} : decide (V.str i = V.str j) = decide (i = j) := by
  by_cases h : i = j
  · subst h; simp
  · rw [decide_eq_false h, decide_eq_false (fun z => h (V.str.inj z))]
theorem dec_b {i j : Bool} : decide (V.bl i = V.bl j) = decide (i = j) := by
  cases i <;> cases j <;> rfl
theorem rok_eq : ROk W Rv Rv Rv rEq (kEq false) := fun F H x y d e Q P ok r1 r2 q k => by
  cases r1 <;> cases r2 <;> first
    | exact q.elim
    | exact ⟨rfl, by rw [dec_i]; exact k _ F H _ q (.refl ok) (.bl _)⟩
    | exact ⟨rfl, by rw [dec_s]; exact k _ F H _ q (.refl ok) (.bl _)⟩
    | exact ⟨rfl, by rw [dec_b]; exact k _ F H _ q (.refl ok) (.bl _)⟩
    | exact ⟨rfl, k _ F H _ q (.refl ok) (.bl _)⟩
theorem rok_ne : ROk W Rv Rv Rv rNe (kEq true) := fun F H x y d e Q P ok r1 r2 q k => by
  cases r1 <;> cases r2 <;> first
    | exact q.elim
    | exact ⟨rfl, by rw [dec_i]; exact k _ F H _ q (.refl ok) (.bl _)⟩
    | exact ⟨rfl, by rw [dec_s]; exact k _ F H _ q (.refl ok) (.bl _)⟩
    | exact ⟨rfl, by rw [dec_b]; exact k _ F H _ q (.refl ok) (.bl _)⟩
    | exact ⟨rfl, k _ F H _ q (.refl ok) (.bl _)⟩
/-- x[i] -/
def oQ {α : Type} : Option α → (α → Prop) → Prop
  | some x, P => P x
  | none, _ => False
def kIx : Dat → Dat → (Dat → Prop) → Prop
  | .lst xs, .int i, P => oQ (atI xs i) P
  | .tup xs, .int i, P => oQ (atI xs i) P
  | _, _, _ => False
theorem RvAll.atI {F : Addr → Prop} {H : Hp} {vs : List V} {ds : List Dat} {i : Int} {d : Dat} (r : RvAll W F H vs ds) (e : L2.atI ds i = some d) : ∃ v, L2.atI vs i = some v ∧ Rv W F H v d := by
  unfold L2.atI at e ⊢
  rw [r.length]
  cases h : ixN ds.length i with
  | none =>
    rw [h] at e
    cases e
  | some j =>
    rw [h] at e
    exact r.get e
theorem rok_ixl : ROk W Pk Rv Rv (rIxL W.K) (fun x y P => match x with | .lst _ => kIx x y P | _ => False) := fun F H x y d e Q P ok r1 r2 q k => by
  cases d with
  | lst xs =>
    obtain ⟨a, vs, rfl, ha, np, r⟩ := r1.lst ok
    cases r2 with
    | int i =>
      have q : oQ (atI xs i) P := q
      cases h : atI xs i with
      | none =>
        rw [h] at q
        exact q.elim
      | some z =>
        rw [h] at q
        obtain ⟨v, e1, rv⟩ := r.atI h
        exact ⟨a, vs, i, v, rfl, rfl, SqL.of ha, e1, k z F H v q (.refl ok) rv⟩
    | _ => exact q.elim
  | _ => exact q.elim
theorem rok_ixt : ROk W Pk Rv Rv (rIxT W.K) (fun x y P => match x with | .tup _ => kIx x y P | _ => False) := fun F H x y d e Q P ok r1 r2 q k => by
  cases d with
  | tup xs =>
    cases r1 with
    | rv r1 =>
      cases r1 with
      | tup ha r =>
        cases r2 with
        | int i =>
          have q : oQ (atI xs i) P := q
          cases h : atI xs i with
          | none =>
            rw [h] at q
            exact q.elim
          | some z =>
            rw [h] at q
            obtain ⟨v, e1, rv⟩ := r.atI h
            exact ⟨_, _, i, v, rfl, rfl, ha.sq, e1, k z F H v q (.refl ok) rv⟩
        | _ => exact q.elim
  | _ => exact q.elim
theorem rok_ix : ROk W Pk Rv Rv (rIx W.K) kIx := fun F H x y d e Q P ok r1 r2 q k => by
  cases d with
  | lst xs => exact .inl (rok_ixl F H x y _ e Q P ok r1 r2 q k)
  | tup xs => exact .inr (.inl (rok_ixt F H x y _ e Q P ok r1 r2 q k))
  | _ => exact q.elim
end
section
variable {W : Wd} {H0 : Hp} {te ta tb tc : TE} {ae ea eb ec : AEx} {t u : TT} {at_ au : ATs}
def aNil : AFr := fun _ P => P []
def aCons (ea : AEx) (er : AFr) : AFr := fun env P => ea env fun x => er env fun xs => P (x :: xs)
theorem a_nil : AArg W H0 0 tNil aNil := ⟨fun _ _ F H _ _ ok _ h k => k [] F H [] h (.refl ok) .nil rfl⟩
theorem a_cons {n : Nat} {tr : TA} {er : AFr} (ha : AExp W H0 ta ea) (hr : AArg W H0 n tr er) : AArg W H0 (n + 1) (tCons ta tr) (aCons ea er) :=
  ⟨fun σ env F H Q P ok m q k => ha.run σ env F H _ _ ok m q fun d F1 H1 v p1 x1 r1 => hr.run σ env F1 H1 _ _ x1.ok (m.ext ok x1) p1 fun ds F2 H2 vs p2 x2 r2 l2 =>
    k (d :: ds) F2 H2 (v :: vs) p2 (x1.trans ok x2) (.cons (r1.sub (x2.sub x1.ok)) r2) (congrArg (· + 1) l2)⟩
def aTup (aa : AFr) : AEx := fun env P => aa env fun ds => P (.tup ds)
theorem a_tup {n : Nat} {tr : TA} {aa : AFr} (h : AArg W H0 n tr aa) (hn : n ≤ 100000 := by decide) : AExp W H0 (tTupF tr) (aTup aa) :=
  ⟨fun σ env F H Q P ok m q k => h.run σ env F H _ _ ok m q fun ds F1 H1 vs p1 x1 r1 l1 => ⟨Nat.le_of_lt (len_size (by rw [r1.length]; omega)), fun a o n tp => by
    have x2 : Ext W F1 H1 _ _ := Ext.new (o := o) x1.ok n
    exact k (.tup ds) _ _ _ p1 (x1.trans ok x2) (.tup ⟨.inr rfl, o, upd_same, tp⟩ (r1.sub (x2.sub x1.ok)))⟩⟩
theorem a_lst {n : Nat} {tr : TA} {aa : AFr} (h : AArg W H0 n tr aa) (hn : n ≤ 100000 := by decide) : AFrs W H0 (tLst tr) aa :=
  ⟨fun σ env F H Q P ok m q k => h.run σ env F H _ _ ok m q fun ds F1 H1 vs p1 x1 r1 l1 => ⟨Nat.le_of_lt (len_size (by rw [r1.length]; omega)), fun a n => by
    have x2 : Ext W F1 H1 _ _ := Ext.lay (o := .lst vs) x1.ok n
    exact k ds _ _ a vs p1 (x1.trans ok x2) (x1.there ok n) (fun f => x1.ok.tr a f n) upd_same (r1.sub (x2.sub x1.ok))⟩⟩
def aTest (ea : AEx) : ATs := fun env P => ea env fun x => match x with | .bl b => P b | _ => False
theorem a_test (h : AExp W H0 ta ea) : ATst W H0 (tTest ta) (aTest ea) := ⟨fun σ env F H Q P ok m q k => h.run σ env F H _ _ ok m q fun d F1 H1 v p1 x1 r1 => by
  cases r1 <;> first | exact p1.elim | exact ⟨_, rfl, k _ F1 H1 p1 x1⟩⟩
theorem a_tb (h : AExp W H0 ta ea) : ATst W H0 (tB ta) (aTest ea) := ⟨fun σ env F H Q P ok m q k => h.run σ env F H _ _ ok m q fun d F1 H1 v p1 x1 r1 => by
  cases r1 <;> first | exact p1.elim | exact ⟨_, rfl, k _ F1 H1 p1 x1⟩⟩
def aNot (a : ATs) : ATs := fun env P => a env fun b => P (!b)
theorem a_not (h : ATst W H0 t at_) : ATst W H0 (tNot t) (aNot at_) := ⟨fun σ env F H Q P ok m q k => h.run σ env F H _ _ ok m q fun b F1 H1 p1 x1 => k _ F1 H1 p1 x1⟩
/-- two ways by a bool: kept together, so that it can be told first -/
def two (b : Bool) (p q : Prop) : Prop := match b with
  | true => p
  | false => q
def aAnd (a c : ATs) : ATs := fun env P => a env fun b => two b (c env P) (P false)
def aOr (a c : ATs) : ATs := fun env P => a env fun b => two b (P true) (c env P)
theorem a_and (h : ATst W H0 t at_) (h2 : ATst W H0 u au) : ATst W H0 (tAnd t u) (aAnd at_ au) := ⟨fun σ env F H Q P ok m q k => h.run σ env F H _ _ ok m q fun b F1 H1 p1 x1 => by
  cases b with
  | true =>
    rw [if_pos rfl]
    exact h2.run σ env F1 H1 _ _ x1.ok (m.ext ok x1) p1 fun b F2 H2 p2 x2 => k b F2 H2 p2 (x1.trans ok x2)
  | false =>
    rw [if_neg Bool.false_ne_true]
    exact k false F1 H1 p1 x1⟩
theorem a_or (h : ATst W H0 t at_) (h2 : ATst W H0 u au) : ATst W H0 (tOr t u) (aOr at_ au) := ⟨fun σ env F H Q P ok m q k => h.run σ env F H _ _ ok m q fun b F1 H1 p1 x1 => by
  cases b with
  | true =>
    rw [if_pos rfl]
    exact k true F1 H1 p1 x1
  | false =>
    rw [if_neg Bool.false_ne_true]
    exact h2.run σ env F1 H1 _ _ x1.ok (m.ext ok x1) p1 fun b F2 H2 p2 x2 => k b F2 H2 p2 (x1.trans ok x2)⟩
def bQ : Dat → (Bool → Prop) → Prop
  | .bl b, P => P b
  | _, _ => False
def aAndV (ea eb : AEx) : AEx := fun env P => ea env fun x => bQ x fun b => two b (eb env P) (P (.bl false))
def aOrV (ea eb : AEx) : AEx := fun env P => ea env fun x => bQ x fun b => two b (P (.bl true)) (eb env P)
def aNotV (ea : AEx) : AEx := fun env P => ea env fun x => bQ x fun b => P (.bl (!b))
theorem a_andV (ha : AExp W H0 ta ea) (hb : AExp W H0 tb eb) : AExp W H0 (tAndV ta tb) (aAndV ea eb) := ⟨fun σ env F H Q P ok m q k => ha.run σ env F H _ _ ok m q fun d F1 H1 v p1 x1 r1 => by
  cases r1 with
  | bl b =>
    refine ⟨b, rfl, ?_⟩
    cases b with
    | true =>
      rw [if_pos rfl]
      exact hb.run σ env F1 H1 _ _ x1.ok (m.ext ok x1) p1 fun e F2 H2 w p2 x2 r2 => k e F2 H2 w p2 (x1.trans ok x2) r2
    | false =>
      rw [if_neg Bool.false_ne_true]
      exact k _ F1 H1 _ p1 x1 (.bl false)
  | _ => exact p1.elim⟩
theorem a_orV (ha : AExp W H0 ta ea) (hb : AExp W H0 tb eb) : AExp W H0 (tOrV ta tb) (aOrV ea eb) := ⟨fun σ env F H Q P ok m q k => ha.run σ env F H _ _ ok m q fun d F1 H1 v p1 x1 r1 => by
  cases r1 with
  | bl b =>
    refine ⟨b, rfl, ?_⟩
    cases b with
    | true =>
      rw [if_pos rfl]
      exact k _ F1 H1 _ p1 x1 (.bl true)
    | false =>
      rw [if_neg Bool.false_ne_true]
      exact hb.run σ env F1 H1 _ _ x1.ok (m.ext ok x1) p1 fun e F2 H2 w p2 x2 r2 => k e F2 H2 w p2 (x1.trans ok x2) r2
  | _ => exact p1.elim⟩
theorem a_notV (ha : AExp W H0 ta ea) : AExp W H0 (tNotV ta) (aNotV ea) := ⟨fun σ env F H Q P ok m q k => ha.run σ env F H _ _ ok m q fun d F1 H1 v p1 x1 r1 => by
  cases r1 with
  | bl b => exact ⟨b, rfl, k _ F1 H1 _ p1 x1 (.bl _)⟩
  | _ => exact p1.elim⟩
def aIf (c : ATs) (ea eb : AEx) : AEx := fun env P => c env fun b => two b (ea env P) (eb env P)
/-- a < b < c -/
def aChain (f g : Dat → Dat → (Dat → Prop) → Prop) (ea eb ec : AEx) : AEx := fun env P => ea env fun x => eb env fun y => f x y fun z => bQ z fun b => two b (ec env fun w => g y w P) (P (.bl false))
theorem a_chain {r r' : L2.R2} {f g : Dat → Dat → (Dat → Prop) → Prop} (hr : ROk W Rv Rv Rv r f) (hr' : ROk W Rv Rv Rv r' g) (ha : AExp W H0 ta ea) (hb : AExp W H0 tb eb) (hc : AExp W H0 tc ec) : AExp W H0 (tChain r r' ta tb tc) (aChain f g ea eb ec) :=
  ⟨fun σ env F H Q P ok m q k => ha.run σ env F H _ _ ok m q fun d F1 H1 v p1 x1 r1 => hb.run σ env F1 H1 _ _ x1.ok (m.ext ok x1) p1 fun e F2 H2 w p2 x2 r2 => by
    have ok2 := x2.ok
    have x12 := x1.trans ok x2
    refine hr F2 H2 v w d e _ _ ok2 (r1.sub (x2.sub x1.ok)) r2 p2 fun z F3 H3 y p3 x3 r3 => ?_
    have x13 := x12.trans ok x3
    cases r3 with
    | bl b =>
      refine ⟨b, rfl, ?_⟩
      cases b with
      | true =>
        rw [if_pos rfl]
        exact hc.run σ env F3 H3 _ _ x3.ok (m.ext ok x13) p3 fun c F4 H4 y p4 x4 r4 => hr' F4 H4 w y e c _ _ x4.ok ((r2.sub (x3.sub ok2)).sub (x4.sub x3.ok)) r4 p4 fun z F5 H5 y p5 x5 r5 => k z F5 H5 y p5 ((x13.trans ok x4).trans ok x5) r5
      | false =>
        rw [if_neg Bool.false_ne_true]
        exact k _ F3 H3 _ p3 x13 (.bl false)
    | _ => exact p3.elim⟩
def a1 (f : Dat → (Dat → Prop) → Prop) (ea : AEx) : AEx := fun env P => ea env fun x => f x P
def kNeg : Dat → (Dat → Prop) → Prop
  | .int i, P => P (.int (-i))
  | _, _ => False
theorem a_neg (ha : AExp W H0 ta ea) : AExp W H0 (tUn (rU fun i => .int (-i)) ta) (a1 kNeg ea) := ⟨fun σ env F H Q P ok m q k => ha.run σ env F H _ _ ok m q fun d F1 H1 v p1 x1 r1 => by
  cases r1 with
  | int i => exact ⟨i, rfl, k _ F1 H1 _ p1 x1 (.int _)⟩
  | _ => exact p1.elim⟩
/-- the field i of an object of the class k -/
def kFld (c i : Nat) : Dat → (Dat → Prop) → Prop
  | .obj c' ds, P => c' = c ∧ oQ ds[i]? P
  | _, _ => False
theorem a_fld {c i : Nat} {f : Str} (cl : Cls W.K (W.ca c)) (na : NoAttr W.K (W.ca c) f) (hf : (clsN c)[i]? = some f) (ha : AExp W H0 ta ea) : AExp W H0 (tFld W.K ta f) (a1 (kFld c i) ea) := ⟨fun σ env F H Q P ok m q k => ha.run σ env F H _ _ ok m q fun d F1 H1 v p1 x1 r1 => by
  cases r1 with
  | @obj a dx c' fs ds fa hA rf no =>
    obtain ⟨rfl, p1⟩ := p1
    cases e : ds[i]? with
    | none =>
      rw [e] at p1
      exact p1.elim
    | some d =>
      rw [e] at p1
      obtain ⟨v, e1, rv⟩ := rf.get hf e
      exact ⟨a, _, dx, fs, v, rfl, hA, cl, na, e1, k d F1 H1 v p1 x1 rv⟩
  | _ => exact p1.elim⟩
def kIsN (n : Bool) : Dat → Dat → (Dat → Prop) → Prop := fun x y P => match y with
  | .non => (match x with
    | .non => P (.bl (!n))
    | _ => P (.bl n))
  | _ => False
theorem rok_isN : ROk W Rv Rv Rv (fun x y H Q => y = V.non ∧ Q (.bl (decide (x = V.non))) H) (kIsN false) := fun F H x y d e Q P ok r1 r2 q k => by
  cases r2 with
  | non => exact ⟨rfl, by cases r1 <;> exact k _ F H _ q (.refl ok) (.bl _)⟩
  | _ => exact q.elim
theorem rok_notN : ROk W Rv Rv Rv (fun x y H Q => y = V.non ∧ Q (.bl (!decide (x = V.non))) H) (kIsN true) := fun F H x y d e Q P ok r1 r2 q k => by
  cases r2 with
  | non => exact ⟨rfl, by cases r1 <;> exact k _ F H _ q (.refl ok) (.bl _)⟩
  | _ => exact q.elim
end
abbrev ASp := List Dat → (Dat → Prop) → Prop
abbrev ASpF := List Dat → (List Dat → Prop) → Prop
def toSp (K : PySem.W.Frag) (ca : Nat → Addr) (asp : ASp) : Sp := fun vs H Q _ => ∃ (po : Option (Addr × Addr)) (F : Addr → Prop) (ds : List Dat) (P : Dat → Prop), Okk ⟨K, ca, po⟩ F H ∧ RvAll ⟨K, ca, po⟩ F H vs ds ∧ asp ds P ∧
  ∀ d F' H' v, P d → Ext ⟨K, ca, po⟩ F H F' H' → Rv ⟨K, ca, po⟩ F' H' v d → Q v H'
def aCall (asp : ASp) (aa : AFr) : AEx := fun env P => aa env fun ds => asp ds P
/-- a method: the object ahead of the arguments -/
def aMeth (c : Nat) (asp : ASp) (ea : AEx) (aa : AFr) : AEx := fun env P => ea env fun x => (match x with
  | .obj c' _ => c' = c
  | _ => False) ∧ aa env fun ds => asp (x :: ds) P
section
variable {K : PySem.W.Frag} {ca : Nat → Addr} {po : Option (Addr × Addr)} {H0 : Hp} {te ta tb : TE} {ae ea eb : AEx}
theorem a_call {n : Nat} {E : XK} {t : TA} {aa : AFr} {asp : ASp} (h : AArg ⟨K, ca, po⟩ H0 n t aa) : AExp ⟨K, ca, po⟩ H0 (tCall (toSp K ca asp) [] E t) (aCall asp aa) :=
  ⟨fun σ env F H Q P ok m q k => h.run σ env F H _ _ ok m q fun ds F1 H1 vs p1 x1 r1 _ => by
    rw [List.append_nil]
    exact ⟨po, F1, ds, P, x1.ok, r1, p1, fun d F' H' v p x r => k d F' H' v p (x1.trans ok x) r⟩⟩
theorem a_meth {n c : Nat} {E : XK} {mt : Str} {t : TA} {aa : AFr} {asp : ASp} (nm : mt ∉ clsN c) (ha : AExp ⟨K, ca, po⟩ H0 ta ea) (h : AArg ⟨K, ca, po⟩ H0 n t aa) : AExp ⟨K, ca, po⟩ H0 (tMeth (ca c) mt (toSp K ca asp) [] E ta t) (aMeth c asp ea aa) :=
  ⟨fun σ env F H Q P ok m q k => ha.run σ env F H _ _ ok m q fun d F1 H1 v p1 x1 r1 => by
    cases r1 with
    | @obj a dx c' fs ds fa hA rf no =>
      obtain ⟨e, p1⟩ := p1
      have e : c' = c := e
      subst e
      refine ⟨a, dx, fs, rfl, hA, no mt nm, ?_⟩
      refine h.run σ env F1 H1 _ _ x1.ok (m.ext ok x1) p1 fun es F2 H2 vs p2 x2 r2 _ => ?_
      rw [List.append_nil]
      exact ⟨po, F2, _, P, x2.ok, .cons ((Rv.obj fa hA rf no).sub (x2.sub x1.ok)) r2, p2, fun d F' H' v p x r => k d F' H' v p ((x1.trans ok x2).trans ok x) r⟩
    | _ => exact p1.1.elim⟩
end
structure ItOk (W : Wd) (J : It) (F : Addr → Prop) (H : Hp) (ds : List Dat) : Prop where
  it : ∀ (F2 : Addr → Prop) (H2 : Hp), Okk W F2 H2 → Sub F H F2 H2 → ∀ (i : Nat) (d : Dat), ds[i]? = some d → J.go i H2 ∧ ∀ x H3, J.yld i H2 x H3 → ∃ F3, Ext W F2 H2 F3 H3 ∧ Rv W F3 H3 x d
  done : ∀ (F2 : Addr → Prop) (H2 : Hp), Okk W F2 H2 → Sub F H F2 H2 → J.stop ds.length H2
structure AIter (W : Wd) (H0 : Hp) (wi : TI) (ai : AFr) : Prop where
  run : ∀ (σ : L2.St) (env : List Sl) (F : Addr → Prop) (H : Hp) (R : It → Hp → Prop) (P : List Dat → Prop), Okk W F H → Mt W H0 F H σ env → ai env P →
    (∀ ds F' H' J, P ds → Ext W F H F' H' → ItOk W J F' H' ds → R J H') → wi σ H R
def lQ : Dat → (List Dat → Prop) → Prop
  | .lst xs, P => P xs
  | _, _ => False
def tQ : Dat → (List Dat → Prop) → Prop
  | .tup xs, P => P xs
  | _, _ => False
/-- over a list (k = false) or a tuple (k = true) -/
def kQ (k : Bool) : Dat → (List Dat → Prop) → Prop := fun d P => match k with
  | true => tQ d P
  | false => lQ d P
def iSeq (q : Dat → (List Dat → Prop) → Prop) (ea : AEx) : AFr := fun env P => ea env fun x => q x P
def iRan (aa : AFr) : AFr := fun env P => aa env fun ds => match ds with
  | [.int j] => j < 1000000000000 ∧ -1000000000000 < j ∧ P ((List.range j.toNat).map fun (i : Nat) => Dat.int (0 + (i : Int)))
  | [.int i, .int j] => (j < 1000000000000 ∧ -1000000000000 < j ∧ i < 1000000000000 ∧ -1000000000000 < i) ∧ P ((List.range (j - i).toNat).map fun (n : Nat) => Dat.int (i + (n : Int)))
  | _ => False
section
variable {W : Wd} {H0 : Hp} {te ta tb : TE} {ae ea eb : AEx}
theorem it_list {F : Addr → Prop} {H : Hp} {a : Addr} {vs : List V} {ds : List Dat} (f : F a) (h : H a = some (.lst vs)) (r : RvAll W F H vs ds) : ItOk W (Itl W.K a) F H ds := by
  refine ⟨fun F2 H2 ok s i d e => ?_, fun F2 H2 ok s => ?_⟩
  · have h2 : H2 a = some (.lst vs) := (s a f).2.trans h
    obtain ⟨v, e1, rv⟩ := r.get e
    refine ⟨⟨vs, v, SqL.of h2, e1⟩, fun x H3 y => ?_⟩
    obtain ⟨rfl, y⟩ := y
    have e2 := y vs (SqL.of h2)
    rw [e1] at e2
    cases e2
    exact ⟨F2, .refl ok, rv.sub s⟩
  · exact ⟨vs, SqL.of ((s a f).2.trans h), by rw [r.length]; exact Nat.le_refl _⟩
theorem it_tup {F : Addr → Prop} {H : Hp} {a : Addr} {vs : List V} {ds : List Dat} (h : FzT W F H a vs) (r : RvAll W F H vs ds) : ItOk W (Itt W.K a) F H ds := by
  refine ⟨fun F2 H2 ok s i d e => ?_, fun F2 H2 ok s => ?_⟩
  · have h2 := (h.sub s).sq
    obtain ⟨v, e1, rv⟩ := r.get e
    refine ⟨⟨vs, v, h2, e1⟩, fun x H3 y => ?_⟩
    obtain ⟨rfl, y⟩ := y
    have e2 := y vs h2
    rw [e1] at e2
    cases e2
    exact ⟨F2, .refl ok, rv.sub s⟩
  · exact ⟨vs, (h.sub s).sq, by rw [r.length]; exact Nat.le_refl _⟩
theorem i_list (ha : AExp W H0 ta ea) : AIter W H0 (iList W.K ta) (iSeq lQ ea) := ⟨fun σ env F H R P ok m q k => ha.run σ env F H _ _ ok m q fun d F1 H1 v p1 x1 r1 => by
  cases r1 with
  | lst f h r => exact ⟨_, rfl, ⟨_, SqL.of h⟩, k _ F1 H1 _ p1 x1 (it_list f h r)⟩
  | _ => exact p1.elim⟩
theorem i_tup (ha : AExp W H0 ta ea) : AIter W H0 (iTup W.K ta) (iSeq tQ ea) := ⟨fun σ env F H R P ok m q k => ha.run σ env F H _ _ ok m q fun d F1 H1 v p1 x1 r1 => by
  cases r1 with
  | tup h r => exact ⟨_, rfl, ⟨_, h.sq⟩, k _ F1 H1 _ p1 x1 (it_tup h r)⟩
  | _ => exact p1.elim⟩
theorem it_ran {F : Addr → Prop} {H : Hp} (lo : Int) (n : Nat) : ItOk W (Itr lo n) F H ((List.range n).map fun (i : Nat) => Dat.int (lo + (i : Int))) := by
  refine ⟨fun F2 H2 ok s i d e => ?_, fun F2 H2 ok s => ?_⟩
  · rw [List.getElem?_map] at e
    cases h : (List.range n)[i]? with
    | none =>
      rw [h] at e
      cases e
    | some j =>
      rw [h] at e
      obtain ⟨hl, e1⟩ := List.getElem?_eq_some_iff.mp h
      rw [List.getElem_range] at e1
      subst e1
      rw [List.length_range] at hl
      cases e
      refine ⟨hl, fun x H3 y => ?_⟩
      obtain ⟨rfl, rfl⟩ := y
      exact ⟨F2, .refl ok, .int _⟩
  · rw [List.length_map, List.length_range]
    exact Nat.le_refl n
theorem i_ran1 {t : TA} {aa : AFr} (h : AArg W H0 1 t aa) : AIter W H0 (iRng1 t) (iRan aa) := ⟨fun σ env F H R P ok m q k => h.run σ env F H _ _ ok m q fun ds F1 H1 vs p1 x1 r1 l1 => by
  match ds, l1, p1, r1 with
  | [.int j], _, p1, .cons r .nil =>
    obtain ⟨p0, p2, p1⟩ := p1
    cases r
    exact ⟨j, rfl, by omega, by omega, k _ F1 H1 _ p1 x1 (it_ran 0 j.toNat)⟩⟩
end
abbrev ATg := Dat → List Sl → (List Sl → Prop) → Prop
/-- vs: the slots that it stores to -/
structure ATgt (W : Wd) (H0 : Hp) (vs : List Nat) (g : TG) (ag : ATg) : Prop where
  run : ∀ (v : V) (d : Dat) (σ : L2.St) (env : List Sl) (F : Addr → Prop) (H : Hp) (Q : L2.St → Hp → Prop) (P : List Sl → Prop), Okk W F H → Mt W H0 F H σ env → Rv W F H v d → ag d env P →
    (∀ env' σ', P env' → Mt W H0 F H σ' env' → wipe σ' vs = wipe σ vs → Q σ' H) → g v σ H Q
structure ATgs (W : Wd) (H0 : Hp) (vs : List Nat) (n : Nat) (g : TGs) (ag : List Dat → List Sl → (List Sl → Prop) → Prop) : Prop where
  run : ∀ (xs : List V) (ds : List Dat) (σ : L2.St) (env : List Sl) (F : Addr → Prop) (H : Hp) (Q : L2.St → Hp → Prop) (P : List Sl → Prop), Okk W F H → Mt W H0 F H σ env → RvAll W F H xs ds → ag ds env P →
    (∀ env' σ', P env' → Mt W H0 F H σ' env' → wipe σ' vs = wipe σ vs → Q σ' H) → g xs σ H Q
  ln : ∀ ds env P, ag ds env P → ds.length = n
def gA (i : Nat) : ATg := fun d env P => P (env.set i (.d d))
def gTu (ag : List Dat → List Sl → (List Sl → Prop) → Prop) : ATg := fun d env P => tQ d fun ds => ag ds env P
def gNilA : List Dat → List Sl → (List Sl → Prop) → Prop := fun ds env P => match ds with
  | [] => P env
  | _ :: _ => False
def gConsA (g : ATg) (ag : List Dat → List Sl → (List Sl → Prop) → Prop) : List Dat → List Sl → (List Sl → Prop) → Prop := fun ds env P => match ds with
  | [] => False
  | d :: ds => g d env fun env2 => ag ds env2 P
theorem wipe_set (σ : L2.St) (i : Nat) (x : Option V) : ∀ vs : List Nat, i ∈ vs → wipe (σ.set i x) vs = wipe σ vs
  | [], h => by cases h
  | v :: vs, h => by
    show (wipe (σ.set i x) vs).set v none = (wipe σ vs).set v none
    by_cases hv : i ∈ vs
    · rw [wipe_set σ i x vs hv]
    · have e : i = v := (List.mem_cons.mp h).resolve_right hv
      subst e
      have com : ∀ us : List Nat, i ∉ us → wipe (σ.set i x) us = (wipe σ us).set i x := fun us => by
        induction us with
        | nil => intro _; rfl
        | cons u us ih =>
          intro hu
          show (wipe (σ.set i x) us).set u none = ((wipe σ us).set u none).set i x
          rw [ih (fun z => hu (List.mem_cons_of_mem _ z)), List.set_comm _ _ (fun z => hu (by rw [z]; exact List.mem_cons_self))]
      rw [com vs hv, List.set_set]
theorem wipe_wipe (σ : L2.St) : ∀ vs : List Nat, wipe (wipe σ vs) vs = wipe σ vs
  | [] => rfl
  | v :: vs => by
    have e := wipe_set (wipe σ vs) v none (v :: vs) List.mem_cons_self
    show wipe ((wipe σ vs).set v none) (v :: vs) = (wipe σ vs).set v none
    rw [e]
    show (wipe (wipe σ vs) vs).set v none = _
    rw [wipe_wipe σ vs]
section
variable {W : Wd} {H0 : Hp} {vs : List Nat}
theorem g_name {i : Nat} (h : i ∈ vs := by decide) : ATgt W H0 vs (gName i) (gA i) := ⟨fun v d σ env F H Q P ok m r q k => k _ _ q (m.setD i r) (wipe_set σ i _ vs h)⟩
theorem g_tup {n : Nat} {t : TGs} {ag : List Dat → List Sl → (List Sl → Prop) → Prop} (h : ATgs W H0 vs n t ag) : ATgt W H0 vs (gTup W.K n t) (gTu ag) := ⟨fun v d σ env F H Q P ok m r q k => by
  cases r with
  | tup hA rr => exact ⟨_, _, rfl, hA.sq, rr.length.trans (h.ln _ _ _ q), h.run _ _ σ env F H Q P ok m rr q k⟩
  | _ => exact q.elim⟩
theorem g_nil : ATgs W H0 vs 0 gNil gNilA := ⟨fun xs ds σ env F H Q P ok m r q k => by
  cases r with
  | nil => exact ⟨rfl, k env σ q m rfl⟩
  | cons _ _ => exact q.elim, fun ds env P q => by
  cases ds with
  | nil => rfl
  | cons _ _ => exact q.elim⟩
theorem g_cons {n : Nat} {t : TG} {ag : ATg} {u : TGs} {au : List Dat → List Sl → (List Sl → Prop) → Prop} (h : ATgt W H0 vs t ag) (h2 : ATgs W H0 vs n u au) (tot : ∀ d env P, ag d env P → ∃ env2, P env2) : ATgs W H0 vs (n + 1) (gCons t u) (gConsA ag au) := ⟨fun xs ds σ env F H Q P ok m r q k => by
  cases r with
  | nil => exact q.elim
  | cons r rs => exact ⟨_, _, rfl, h.run _ _ σ env F H _ _ ok m r q fun env2 σ2 p2 m2 w2 => h2.run _ _ σ2 env2 F H Q P ok m2 rs p2 fun env3 σ3 p3 m3 w3 => k env3 σ3 p3 m3 (w3.trans w2)⟩, fun ds env P q => by
  cases ds with
  | nil => exact q.elim
  | cons d ds =>
    obtain ⟨env2, p⟩ := tot d env _ q
    exact congrArg (· + 1) (h2.ln ds env2 P p)⟩
theorem tot_name {i : Nat} : ∀ d env P, gA i d env P → ∃ env2, P env2 := fun _ _ _ q => ⟨_, q⟩
theorem tot_tup {ag : List Dat → List Sl → (List Sl → Prop) → Prop} (h : ∀ ds env P, ag ds env P → ∃ env2, P env2) : ∀ d env P, gTu ag d env P → ∃ env2, P env2 := fun d env P q => by
  cases d with
  | tup ds => exact h ds env P q
  | _ => exact q.elim
theorem tot_nil : ∀ ds env P, gNilA ds env P → ∃ env2, P env2 := fun ds env P q => by
  cases ds with
  | nil => exact ⟨_, q⟩
  | cons _ _ => exact q.elim
theorem tot_cons {g : ATg} {ag : List Dat → List Sl → (List Sl → Prop) → Prop} (h : ∀ d env P, g d env P → ∃ env2, P env2) (h2 : ∀ ds env P, ag ds env P → ∃ env2, P env2) : ∀ ds env P, gConsA g ag ds env P → ∃ env2, P env2 := fun ds env P q => by
  cases ds with
  | nil => exact q.elim
  | cons d ds =>
    obtain ⟨env2, p⟩ := h d env _ q
    exact h2 ds env2 P p
end
def wipeA (env : List Sl) : List Nat → List Sl
  | [] => env
  | v :: vs => (wipeA env vs).set v .u
theorem Mt.wipe {W : Wd} {H0 : Hp} {F : Addr → Prop} {H : Hp} {σ : L2.St} {env : List Sl} (m : Mt W H0 F H σ env) : ∀ vs : List Nat, Mt W H0 F H (L2.wipe σ vs) (wipeA env vs)
  | [] => m
  | v :: vs => by
    have m2 := m.wipe vs
    show Mt W H0 F H ((L2.wipe σ vs).set v none) ((wipeA env vs).set v .u)
    generalize L2.wipe σ vs = σ2 at m2
    generalize wipeA env vs = env2 at m2
    refine ⟨by rw [List.length_set, List.length_set, m2.ln], fun j s e => ?_, fun j k xs ys a e1 e2 e3 e4 => ?_⟩
    · by_cases h : j = v
      · subst h
        have hl : j < env2.length := by
          have := (List.getElem?_eq_some_iff.mp e).1
          rwa [List.length_set] at this
        rw [List.getElem?_set_self hl] at e
        cases e
        exact ⟨none, List.getElem?_set_self (by rw [← m2.ln]; exact hl), trivial⟩
      · rw [List.getElem?_set_ne (Ne.symm h)] at e ⊢
        exact m2.at_ j s e
    · have n1 : ∀ {j : Nat} {xs : List Dat}, (env2.set v .u)[j]? = some (.o xs) → j ≠ v := fun {j xs} e z => by
        subst z
        have hl : j < env2.length := by
          have := (List.getElem?_eq_some_iff.mp e).1
          rwa [List.length_set] at this
        rw [List.getElem?_set_self hl] at e
        cases e
      have a1 := n1 e1
      have a2 := n1 e2
      rw [List.getElem?_set_ne (Ne.symm a1)] at e1 e3
      rw [List.getElem?_set_ne (Ne.symm a2)] at e2 e4
      exact m2.own j k xs ys a e1 e2 e3 e4
/-- the items that are made of ds, behind those of acc -/
def lcA (el : Dat → (Option Dat → Prop) → Prop) (P : List Dat → Prop) : List Dat → List Dat → Prop
  | [], acc => P acc
  | d :: ds, acc => el d fun o => match o with
    | some y => lcA el P ds (acc ++ [y])
    | none => lcA el P ds acc
def elA (ag : ATg) (at_ : ATs) (ea : AEx) (env : List Sl) : Dat → (Option Dat → Prop) → Prop := fun d P => ag d env fun env2 => at_ env2 fun b => two b (ea env2 fun y => P (some y)) (P none)
def aLc (ai : AFr) (ag : ATg) (at_ : ATs) (ea : AEx) (vs : List Nat) : AFr := fun env P => ai env fun ds => ds.length ≤ 100000 ∧ lcA (elA ag at_ ea (wipeA env vs)) P ds []
def aYes : ATs := fun _ P => P true
theorem a_yes {W : Wd} {H0 : Hp} : ATst W H0 tYes aYes := ⟨fun _ _ F H _ _ ok _ h k => k true F H h (.refl ok)⟩
theorem a_lc {W : Wd} {H0 : Hp} {wi : TI} {g : TG} {tt : TT} {te : TE} {vs : List Nat} {ai : AFr} {ag : ATg} {at_ : ATs} {ea : AEx} (hi : AIter W H0 wi ai) (hg : ATgt W H0 vs g ag) (ht : ATst W H0 tt at_) (he : AExp W H0 te ea) :
    AFrs W H0 (tLc wi g tt te vs) (aLc ai ag at_ ea vs) := ⟨fun σ env F H Q P ok m q k => hi.run σ env F H _ _ ok m q fun ds F1 H1 J p1 x1 itk => by
  intro D hD
  obtain ⟨sz, p1⟩ := p1
  have ok1 := x1.ok
  have m1 := m.ext ok x1
  have np : ∀ p c, W.po = some (p, c) → D ≠ p ∧ D ≠ c := ok1.pne hD
  refine ⟨fun i n H' => n + i = ds.length ∧ ∃ F' acc ys, Ext W F1 H1 F' H' ∧ ¬ F' D ∧ H' D = some (.lst acc) ∧ RvAll W F' H' acc ys ∧ ys.length ≤ i ∧ lcA (elA ag at_ ea (wipeA env vs)) P (ds.drop i) ys,
    ⟨ds.length, rfl, F1, [], [], Ext.lay ok1 hD, fun f => ok1.tr D f hD, upd_same, .nil, Nat.le_refl _, p1⟩, ?_⟩
  rintro i n H2 ⟨hn, F2, acc, ys, x2, nf, hA, r2, ly, p2⟩
  have ok2 := x2.ok
  by_cases hlt : i < ds.length
  · have hd : ds[i]? = some ds[i] := List.getElem?_eq_getElem hlt
    obtain ⟨go, yl⟩ := itk.it F2 H2 ok2 (x2.sub ok1) i _ hd
    rw [List.drop_eq_getElem_cons hlt] at p2
    refine .inr ⟨go, fun H' => ∃ F' acc ys, Ext W F1 H1 F' H' ∧ ¬ F' D ∧ H' D = some (.lst acc) ∧ RvAll W F' H' acc ys ∧ ys.length ≤ i + 1 ∧ lcA (elA ag at_ ea (wipeA env vs)) P (ds.drop (i + 1)) ys,
      fun H' ⟨F', acc, ys, rest⟩ => ⟨n - 1, by omega, by omega, F', acc, ys, rest⟩, fun x H3 y => ?_⟩
    obtain ⟨F3, x3, rx⟩ := yl x H3 y
    have x13 := x2.trans ok1 x3
    refine hg.run x _ _ _ F3 H3 _ _ x3.ok ((m1.ext ok1 x13).wipe vs) rx p2 fun env4 σ4 p4 m4 w4 => ?_
    refine ⟨w4.trans (wipe_wipe σ vs), ht.run σ4 env4 F3 H3 _ _ x3.ok m4 p4 fun b F5 H5 p5 x5 => ?_⟩
    have keep : ∀ {Fa Fb : Addr → Prop} {Ha Hb : Hp}, Ext W Fa Ha Fb Hb → ¬ Fa D → Ha D = some (.lst acc) → ¬ Fb D ∧ Hb D = some (.lst acc) := fun {Fa Fb Ha Hb} x nf h => by
      refine ⟨fun f => ?_, x.kp D _ h (fun p c e => (np p c e).1)⟩
      rcases x.dn D f with z | z
      · exact nf z
      · rw [z] at h
        cases h
    obtain ⟨nf3, h3⟩ := keep x3 nf hA
    obtain ⟨nf5, h5⟩ := keep x5 nf3 h3
    have x35 := x3.trans ok2 x5
    have x15 := x2.trans ok1 x35
    cases b with
    | true =>
      rw [if_pos rfl]
      refine he.run σ4 env4 F5 H5 _ _ x5.ok (m4.ext x3.ok x5) p5 fun e F6 H6 v p6 x6 r6 => ?_
      obtain ⟨nf6, h6⟩ := keep x6 nf5 h5
      have x16 := x15.trans ok1 x6
      have r26 := r2.sub ((x35.trans ok2 x6).sub ok2)
      have sb : Sub F6 H6 F6 (upd H6 D (.lst (acc ++ [v]))) := fun a f => ⟨f, upd_ne (fun z => nf6 (by rw [← z]; exact f))⟩
      refine ⟨acc, h6, len_size (by rw [r2.length]; omega), F6, _, ys ++ [e], ⟨x16.up, x16.dn, fun a o ha npa => ?_, ⟨fun a f => ?_, fun p c ep => ?_⟩⟩, nf6, upd_same, (r26.append (.cons r6 .nil)).sub sb, by rw [List.length_append]; exact Nat.succ_le_succ ly, p6⟩
      · rw [upd_ne (ne_of_none ha hD)]
        exact x16.kp a o ha npa
      · rw [(sb a f).2]
        exact x16.ok.tr a f
      · obtain ⟨h1, h2, h3⟩ := x16.ok.po p c ep
        exact ⟨h1.mut (np p c ep).1 (np p c ep).2, h2, h3⟩
    | false =>
      rw [if_neg Bool.false_ne_true]
      exact ⟨F5, acc, ys, x15, nf5, h5, r2.sub (x35.sub ok2), by omega, p5⟩
  · have e : i = ds.length := by omega
    subst e
    rw [List.drop_length] at p2
    exact .inl ⟨itk.done F2 H2 ok2 (x2.sub ok1), k ys F2 H2 D acc p2 (x1.trans ok x2) (x1.there ok hD) nf hA r2⟩⟩
structure AEnds where
  nx : List Sl → Prop
  rt : Dat → Prop
  bk : List Sl → Prop := fun _ => False
  ct : List Sl → Prop := fun _ => False
abbrev ASt := AEnds → List Sl → Prop
/-- the states of a def's body: F0, H0 its entry; what is settled in F1, H1 stays -/
structure Bse (W : Wd) (F0 : Addr → Prop) (H0 : Hp) (F1 : Addr → Prop) (H1 : Hp) (F : Addr → Prop) (H : Hp) : Prop where
  ex : Ext W F0 H0 F H
  sb : Sub F1 H1 F H
theorem Sub.trans {F F' F2 : Addr → Prop} {H H' H2 : Hp} (a : Sub F H F' H') (b : Sub F' H' F2 H2) : Sub F H F2 H2 := fun x f => ⟨(b x (a x f).1).1, (b x (a x f).1).2.trans (a x f).2⟩
theorem Sub.refl (F : Addr → Prop) (H : Hp) : Sub F H F H := fun _ f => ⟨f, rfl⟩
structure EndsOk (W : Wd) (F0 : Addr → Prop) (H0 : Hp) (F1 : Addr → Prop) (H1 : Hp) (De : Ends) (Da : AEnds) : Prop where
  nx : ∀ σ env F H, Bse W F0 H0 F1 H1 F H → Mt W H0 F H σ env → Da.nx env → De.nx σ H
  rt : ∀ v d F H, Bse W F0 H0 F1 H1 F H → Rv W F H v d → Da.rt d → De.rt v H
  bk : ∀ σ env F H, Bse W F0 H0 F1 H1 F H → Mt W H0 F H σ env → Da.bk env → De.bk σ H
  ct : ∀ σ env F H, Bse W F0 H0 F1 H1 F H → Mt W H0 F H σ env → Da.ct env → De.ct σ H
structure AStm (W : Wd) (ts : TS) (as : ASt) : Prop where
  run : ∀ (F0 : Addr → Prop) (H0 : Hp) (F1 : Addr → Prop) (H1 : Hp) (De : Ends) (Da : AEnds) (σ : L2.St) (env : List Sl) (F : Addr → Prop) (H : Hp), Okk W F0 H0 → Bse W F0 H0 F1 H1 F H → Mt W H0 F H σ env → EndsOk W F0 H0 F1 H1 De Da → as Da env → ts De σ H
theorem Bse.step {W : Wd} {F0 F1 F F' : Addr → Prop} {H0 H1 H H' : Hp} (ok0 : Okk W F0 H0) (b : Bse W F0 H0 F1 H1 F H) (x : Ext W F H F' H') : Bse W F0 H0 F1 H1 F' H' := ⟨b.ex.trans ok0 x, b.sb.trans (x.sub b.ex.ok)⟩
theorem EndsOk.mono {W : Wd} {F0 F1 F : Addr → Prop} {H0 H1 H : Hp} {De : Ends} {Da : AEnds} (s : Sub F1 H1 F H) (k : EndsOk W F0 H0 F1 H1 De Da) : EndsOk W F0 H0 F H De Da :=
  ⟨fun σ env F H b => k.nx σ env F H ⟨b.ex, s.trans b.sb⟩, fun v d F H b => k.rt v d F H ⟨b.ex, s.trans b.sb⟩, fun σ env F H b => k.bk σ env F H ⟨b.ex, s.trans b.sb⟩, fun σ env F H b => k.ct σ env F H ⟨b.ex, s.trans b.sb⟩⟩
def sNext : ASt := fun D env => D.nx env
def sSeq (a b : ASt) : ASt := fun D env => a { D with nx := b D } env
def sIf (c : ATs) (a b : ASt) : ASt := fun D env => c env fun t => two t (a D env) (b D env)
def sAsg (ea : AEx) (g : ATg) : ASt := fun D env => ea env fun d => g d env D.nx
def sSetO (i : Nat) (af : AFr) : ASt := fun D env => af env fun ds => D.nx (env.set i (.o ds))
def sRet (ea : AEx) : ASt := fun D env => ea env D.rt
def sRetN : ASt := fun D _ => D.rt .non
def sDrop (ea : AEx) : ASt := fun D env => ea env fun _ => D.nx env
def sPar (i j : Nat) (aa : AFr) : ASt := fun D env => aa env fun ds => match ds with
  | [x, y] => D.nx ((env.set i (.d x)).set j (.d y))
  | _ => False
def oQ2 : Sl → (List Dat → Prop) → Prop
  | .o xs, P => P xs
  | _, _ => False
/-- x.append(e), x a list of the def's own -/
def sApp (i : Nat) (ea : AEx) : ASt := fun D env => oQ2 (dAt env i) fun xs => xs.length < 100000 ∧ ea env fun d => D.nx (env.set i (.o (xs ++ [d])))
/-- no statement: from here on the list in slot i is only read -/
def sFz (i : Nat) (a : ASt) : ASt := fun D env => oQ2 (dAt env i) fun xs => a D (env.set i (.d (.lst xs)))
def sAug (i : Nat) (ea : AEx) (f : Dat → Dat → (Dat → Prop) → Prop) : ASt := fun D env => dQ (dAt env i) fun x => ea env fun y => f x y fun z => D.nx (env.set i (.d z))
def forA (g : ATg) (b : ASt) (D : AEnds) : List Dat → List Sl → Prop
  | [], env => D.nx env
  | d :: ds, env => g d env fun env2 => b { D with nx := forA g b D ds, ct := forA g b D ds, bk := D.nx } env2
def sFor (ai : AFr) (g : ATg) (b : ASt) : ASt := fun D env => ai env fun ds => forA g b D ds env
section
variable {W : Wd} {ts tu : TS} {as au : ASt}
theorem s_next : AStm W tNext sNext := ⟨fun F0 H0 F1 H1 De Da σ env F H ok b m k h => k.nx σ env F H b m h⟩
theorem s_seq (h1 : AStm W ts as) (h2 : AStm W tu au) : AStm W (tSeq ts tu) (sSeq as au) := ⟨fun F0 H0 F1 H1 De Da σ env F H ok b m k h =>
  h1.run F0 H0 F1 H1 { De with nx := tu De } { Da with nx := au Da } σ env F H ok b m ⟨fun σ env F H b m h => h2.run F0 H0 F1 H1 De Da σ env F H ok b m k h, k.rt, k.bk, k.ct⟩ h⟩
theorem s_if {t : TT} {c : ATs} (ht : ∀ H0, ATst W H0 t c) (h1 : AStm W ts as) (h2 : AStm W tu au) : AStm W (tIfS t ts tu) (sIf c as au) := ⟨fun F0 H0 F1 H1 De Da σ env F H ok b m k h =>
  (ht H0).run σ env F H _ _ b.ex.ok m h fun t F' H' p x => by
    have b' := b.step ok x
    have m' := m.ext b.ex.ok x
    cases t with
    | true =>
      rw [if_pos rfl]
      exact h1.run F0 H0 F1 H1 De Da σ env F' H' ok b' m' k p
    | false =>
      rw [if_neg Bool.false_ne_true]
      exact h2.run F0 H0 F1 H1 De Da σ env F' H' ok b' m' k p⟩
theorem s_asg {te : TE} {ea : AEx} {g : TG} {ag : ATg} {vs : List Nat} (he : ∀ H0, AExp W H0 te ea) (hg : ∀ H0, ATgt W H0 vs g ag) : AStm W (tAsg te g) (sAsg ea ag) := ⟨fun F0 H0 F1 H1 De Da σ env F H ok b m k h =>
  (he H0).run σ env F H _ _ b.ex.ok m h fun d F' H' v p x r => (hg H0).run v d σ env F' H' _ _ x.ok (m.ext b.ex.ok x) r p fun env' σ' p' m' _ => k.nx σ' env' F' H' (b.step ok x) m' p'⟩
theorem s_set {te : TE} {ea : AEx} {i : Nat} (he : ∀ H0, AExp W H0 te ea) : AStm W (tAsg te (gName i)) (sAsg ea (gA i)) := s_asg (vs := [i]) he fun _ => g_name List.mem_cons_self
theorem s_ret {te : TE} {ea : AEx} (he : ∀ H0, AExp W H0 te ea) : AStm W (tRet te) (sRet ea) := ⟨fun F0 H0 F1 H1 De Da σ env F H ok b m k h =>
  (he H0).run σ env F H _ _ b.ex.ok m h fun d F' H' v p x r => k.rt v d F' H' (b.step ok x) r p⟩
/-- a new list for a slot -/
theorem Mt.setO {H0 : Hp} {F : Addr → Prop} {H : Hp} {σ : L2.St} {env : List Sl} (m : Mt W H0 F H σ env) (i : Nat) {a : Addr} {vs : List V} {ds : List Dat} (nf : ¬ F a) (n0 : H0 a = none) (hA : H a = some (.lst vs)) (r : RvAll W F H vs ds) (np : ∀ p c, W.po = some (p, c) → a ≠ p ∧ a ≠ c)
    (ne : ∀ j xs, j ≠ i → env[j]? = some (.o xs) → σ[j]? ≠ some (some (.ref a))) : Mt W H0 F H (σ.set i (some (.ref a))) (env.set i (.o ds)) := by
  refine ⟨by rw [List.length_set, List.length_set, m.ln], fun j s e => ?_, fun j k xs ys b e1 e2 e3 e4 => ?_⟩
  · by_cases h : j = i
    · subst h
      have hl : j < env.length := by
        have := (List.getElem?_eq_some_iff.mp e).1
        rwa [List.length_set] at this
      rw [List.getElem?_set_self hl] at e
      cases e
      exact ⟨some (.ref a), List.getElem?_set_self (by rw [← m.ln]; exact hl), a, vs, rfl, nf, n0, hA, r, np⟩
    · rw [List.getElem?_set_ne (Ne.symm h)] at e ⊢
      exact m.at_ j s e
  · have at_i : ∀ {j : Nat} {b : Addr}, j = i → (σ.set i (some (V.ref a)))[j]? = some (some (.ref b)) → b = a := fun {j b} z e => by
      subst z
      have hl : j < σ.length := by
        have := (List.getElem?_eq_some_iff.mp e).1
        rwa [List.length_set] at this
      rw [List.getElem?_set_self hl] at e
      cases e
      rfl
    by_cases h1 : j = i
    · by_cases h2 : k = i
      · rw [h1, h2]
      · have eb := at_i h1 e3
        subst eb
        rw [List.getElem?_set_ne (Ne.symm h2)] at e2 e4
        exact absurd e4 (ne k ys h2 e2)
    · by_cases h2 : k = i
      · have eb := at_i h2 e4
        subst eb
        rw [List.getElem?_set_ne (Ne.symm h1)] at e1 e3
        exact absurd e3 (ne j xs h1 e1)
      · rw [List.getElem?_set_ne (Ne.symm h1)] at e1 e3
        rw [List.getElem?_set_ne (Ne.symm h2)] at e2 e4
        exact m.own j k xs ys b e1 e2 e3 e4
theorem s_setO {te : TE} {af : AFr} {i : Nat} (he : ∀ H0, AFrs W H0 te af) : AStm W (tAsg te (gName i)) (sSetO i af) := ⟨fun F0 H0 F1 H1 De Da σ env F H ok b m k h =>
  (he H0).run σ env F H _ _ b.ex.ok m h fun ds F' H' a vs p x n nf hA r => by
    have m' := m.ext b.ex.ok x
    refine k.nx _ _ F' H' (b.step ok x) (m'.setO i nf (b.ex.there ok n) hA r (b.ex.ok.pne n) fun j xs hj e z => ?_) p
    obtain ⟨ov, e1, b', ws, e2, _, _, hb, _⟩ := m.at_ j _ e
    rw [z] at e1
    cases e1
    cases e2
    rw [n] at hb
    cases hb⟩
/-- a list of the def's own is changed -/
theorem s_own {F0 F1 F : Addr → Prop} {H0 H1 H : Hp} {σ : L2.St} {env : List Sl} (ok : Okk W F0 H0) (b : Bse W F0 H0 F1 H1 F H) (m : Mt W H0 F H σ env) {i : Nat} {xs ys : List Dat} {a : Addr} {ws : List V} (e : env[i]? = some (.o xs)) (es : σ[i]? = some (some (.ref a)))
    (nf : ¬ F a) (n0 : H0 a = none) (np : ∀ p c, W.po = some (p, c) → a ≠ p ∧ a ≠ c) (r : RvAll W F H ws ys) : Bse W F0 H0 F1 H1 F (upd H a (.lst ws)) ∧ Mt W H0 F (upd H a (.lst ws)) σ (env.set i (.o ys)) := by
  have sb : Sub F H F (upd H a (.lst ws)) := fun c f => ⟨f, upd_ne (fun z => nf (by rw [← z]; exact f))⟩
  have okk : Okk W F (upd H a (.lst ws)) := ⟨fun c f => by
    rw [(sb c f).2]
    exact b.ex.ok.tr c f, fun p c ep => by
    obtain ⟨h1, h2, h3⟩ := b.ex.ok.po p c ep
    exact ⟨h1.mut (np p c ep).1 (np p c ep).2, h2, h3⟩⟩
  refine ⟨⟨⟨b.ex.up, b.ex.dn, fun c o hc npc => ?_, okk⟩, b.sb.trans sb⟩, ?_⟩
  · rw [upd_ne (ne_of_none hc n0)]
    exact b.ex.kp c o hc npc
  · have hl : i < env.length := (List.getElem?_eq_some_iff.mp e).1
    refine ⟨by rw [List.length_set, m.ln], fun j s ej => ?_, fun j k us vs c e1 e2 e3 e4 => ?_⟩
    · by_cases h : j = i
      · subst h
        rw [List.getElem?_set_self hl] at ej
        cases ej
        exact ⟨_, es, a, ws, rfl, nf, n0, upd_same, r.sub sb, np⟩
      · rw [List.getElem?_set_ne (Ne.symm h)] at ej
        obtain ⟨ov, eo, so⟩ := m.at_ j s ej
        refine ⟨ov, eo, ?_⟩
        cases s with
        | u => trivial
        | d x =>
          obtain ⟨v, ev, rv⟩ := so
          exact ⟨v, ev, rv.sub sb⟩
        | o us =>
          obtain ⟨c, vs, ec, nfc, n0c, hc, rc, npc⟩ := so
          subst ec
          have hca : c ≠ a := fun z => h (m.own j i us xs c ej e eo (by rw [z]; exact es))
          exact ⟨c, vs, rfl, nfc, n0c, by rw [upd_ne hca]; exact hc, rc.sub sb, npc⟩
    · have old : ∀ {j : Nat} {us : List Dat}, (env.set i (.o ys))[j]? = some (.o us) → ∃ us', env[j]? = some (.o us') := fun {j us} ej => by
        by_cases h : j = i
        · subst h
          exact ⟨_, e⟩
        · rw [List.getElem?_set_ne (Ne.symm h)] at ej
          exact ⟨_, ej⟩
      obtain ⟨_, e1⟩ := old e1
      obtain ⟨_, e2⟩ := old e2
      exact m.own j k _ _ c e1 e2 e3 e4
theorem own_at {F : Addr → Prop} {H0 H : Hp} {σ : L2.St} {env : List Sl} (m : Mt W H0 F H σ env) {i : Nat} {P : List Dat → Prop} (h : oQ2 (dAt env i) P) : ∃ xs a vs, P xs ∧ env[i]? = some (.o xs) ∧ σ[i]? = some (some (.ref a)) ∧ ¬ F a ∧ H0 a = none ∧ H a = some (.lst vs) ∧ RvAll W F H vs xs ∧ ∀ p c, W.po = some (p, c) → a ≠ p ∧ a ≠ c := by
  cases e : dAt env i with
  | o xs =>
    rw [e] at h
    have e1 := dAt_get e (fun z => by cases z)
    obtain ⟨ov, e2, a, vs, rfl, nf, n0, hA, r, np⟩ := m.at_ i _ e1
    exact ⟨xs, a, vs, h, e1, e2, nf, n0, hA, r, np⟩
  | u =>
    rw [e] at h
    exact h.elim
  | d x =>
    rw [e] at h
    exact h.elim
theorem own_ext {F F' : Addr → Prop} {H H' : Hp} {a : Addr} {vs : List V} {xs : List Dat} (ok : Okk W F H) (x : Ext W F H F' H') (nf : ¬ F a) (hA : H a = some (.lst vs)) (r : RvAll W F H vs xs) (np : ∀ p c, W.po = some (p, c) → a ≠ p ∧ a ≠ c) : ¬ F' a ∧ H' a = some (.lst vs) ∧ RvAll W F' H' vs xs := by
  refine ⟨fun f => ?_, x.kp a _ hA (fun p c e => (np p c e).1), r.sub (x.sub ok)⟩
  rcases x.dn a f with z | z
  · exact nf z
  · rw [z] at hA
    cases hA
theorem s_app {te : TE} {ea : AEx} {i : Nat} (he : ∀ H0, AExp W H0 te ea) : AStm W (tDrop (tBM W.K "list" rAppend (tVar i) (tCons te tNil))) (sApp i ea) := ⟨fun F0 H0 F1 H1 De Da σ env F H ok b m k h => by
  obtain ⟨xs, a, vs, ⟨hl, h⟩, e, es, nf, n0, hA, r, np⟩ := own_at m h
  refine ⟨_, es, .inl ⟨rfl, vs, SqL.of hA⟩, ?_⟩
  refine (he H0).run σ env F H _ _ b.ex.ok m h fun d F' H' v p x rv => ?_
  obtain ⟨nf', hA', r'⟩ := own_ext b.ex.ok x nf hA r np
  obtain ⟨b2, m2⟩ := s_own ok (b.step ok x) (m.ext b.ex.ok x) e es nf' n0 np (r'.append (.cons rv .nil))
  exact ⟨a, vs, v, rfl, rfl, hA', len_size (by rw [r.length]; omega), k.nx _ _ _ _ b2 m2 p⟩⟩
/-- the list in slot i is settled -/
theorem s_fz {i : Nat} (h1 : AStm W ts as) : AStm W ts (sFz i as) := ⟨fun F0 H0 F1 H1 De Da σ env F H ok b m k h => by
  obtain ⟨xs, a, vs, h, e, es, nf, n0, hA, r, np⟩ := own_at m h
  have nH0 : H0 a = none := n0
  have ext2 : Ext W F0 H0 (fun c => F c ∨ c = a) H := Ext.fz ok b.ex n0 hA
  have sb : Sub F H (fun c => F c ∨ c = a) H := sub_fz a
  refine h1.run F0 H0 F1 H1 De Da σ (env.set i (.d (.lst xs))) _ H ok ⟨ext2, b.sb.trans sb⟩ ?_ k h
  have hl : i < env.length := (List.getElem?_eq_some_iff.mp e).1
  refine ⟨by rw [List.length_set, m.ln], fun j s ej => ?_, fun j l us ws c e1 e2 e3 e4 => ?_⟩
  · by_cases h : j = i
    · subst h
      rw [List.getElem?_set_self hl] at ej
      cases ej
      exact ⟨_, es, _, rfl, .lst (.inr rfl) hA (r.sub sb)⟩
    · rw [List.getElem?_set_ne (Ne.symm h)] at ej
      obtain ⟨ov, eo, so⟩ := m.at_ j s ej
      refine ⟨ov, eo, ?_⟩
      cases s with
      | u => trivial
      | d x =>
        obtain ⟨v, ev, rv⟩ := so
        exact ⟨v, ev, rv.sub sb⟩
      | o us =>
        obtain ⟨c, vs, ec, nfc, n0c, hc, rc, npc⟩ := so
        subst ec
        exact ⟨c, vs, rfl, fun f => by
          rcases f with f | f
          · exact nfc f
          · exact h (m.own j i us xs c ej e eo (by rw [f]; exact es)), n0c, hc, rc.sub sb, npc⟩
  · have ne : ∀ {j : Nat} {us : List Dat}, (env.set i (.d (.lst xs)))[j]? = some (.o us) → j ≠ i := fun {j us} ej z => by
      subst z
      rw [List.getElem?_set_self hl] at ej
      cases ej
    have a1 := ne e1
    have a2 := ne e2
    rw [List.getElem?_set_ne (Ne.symm a1)] at e1
    rw [List.getElem?_set_ne (Ne.symm a2)] at e2
    exact m.own j l us ws c e1 e2 e3 e4⟩
theorem s_for {wi : TI} {ai : AFr} {g : TG} {ag : ATg} {vs : List Nat} (hi : ∀ H0, AIter W H0 wi ai) (hg : ∀ H0, ATgt W H0 vs g ag) (hb : AStm W ts as) : AStm W (tFor wi g ts) (sFor ai ag as) := ⟨fun F0 H0 F1 H1 De Da σ env F H ok b m k h =>
  (hi H0).run σ env F H _ _ b.ex.ok m h fun ds Fa Ha J p1 x1 itk => by
  have b1 := b.step ok x1
  have m1 := m.ext b.ex.ok x1
  refine ⟨fun i n σ' H' => n + i = ds.length ∧ ∃ env' F', Bse W F0 H0 F1 H1 F' H' ∧ Sub Fa Ha F' H' ∧ Mt W H0 F' H' σ' env' ∧ forA ag as Da (ds.drop i) env', ⟨ds.length, rfl, env, Fa, b1, Sub.refl Fa Ha, m1, p1⟩, ?_⟩
  rintro i n σ2 H2 ⟨hn, env2, F2, b2, s2, m2, p2⟩
  by_cases hlt : i < ds.length
  · have hd : ds[i]? = some ds[i] := List.getElem?_eq_getElem hlt
    obtain ⟨go, yl⟩ := itk.it F2 H2 b2.ex.ok s2 i _ hd
    rw [List.drop_eq_getElem_cons hlt] at p2
    refine .inr ⟨go, fun σ' H' => ∃ env' F', Bse W F0 H0 F1 H1 F' H' ∧ Sub Fa Ha F' H' ∧ Mt W H0 F' H' σ' env' ∧ forA ag as Da (ds.drop (i + 1)) env',
      fun σ' H' ⟨env', F', rest⟩ => ⟨n - 1, by omega, by omega, env', F', rest⟩, fun x H3 y => ?_⟩
    obtain ⟨F3, x3, rx⟩ := yl x H3 y
    have b3 := b2.step ok x3
    have m3 := m2.ext b2.ex.ok x3
    have s3 := s2.trans (x3.sub b2.ex.ok)
    refine (hg H0).run x _ σ2 env2 F3 H3 _ _ x3.ok m3 rx p2 fun env4 σ4 p4 m4 _ => ?_
    exact hb.run F0 H0 F3 H3 _ { Da with nx := forA ag as Da (ds.drop (i + 1)), ct := forA ag as Da (ds.drop (i + 1)), bk := Da.nx } σ4 env4 F3 H3 ok ⟨b3.ex, Sub.refl _ _⟩ m4
      ⟨fun σ env F H b m h => ⟨env, F, ⟨b.ex, b3.sb.trans b.sb⟩, s3.trans b.sb, m, h⟩, fun v d F H b => k.rt v d F H ⟨b.ex, b3.sb.trans b.sb⟩, fun σ env F H b => k.nx σ env F H ⟨b.ex, b3.sb.trans b.sb⟩,
        fun σ env F H b m h => ⟨env, F, ⟨b.ex, b3.sb.trans b.sb⟩, s3.trans b.sb, m, h⟩⟩ p4
  · have e : i = ds.length := by omega
    subst e
    rw [List.drop_length] at p2
    exact .inl ⟨itk.done F2 H2 b2.ex.ok s2, k.nx σ2 env2 F2 H2 b2 m2 p2⟩⟩
end
theorem mt_start {W : Wd} {F : Addr → Prop} {H : Hp} : ∀ {N : List Str} {vs : List V} {ds : List Dat}, RvAll W F H vs ds → ds.length ≤ N.length → Mt W H F H (L2.start N vs) (ds.map Sl.d ++ List.replicate (N.length - ds.length) .u) := fun {N vs ds} r hl => by
  have lv := r.length
  unfold L2.start
  rw [lv]
  refine ⟨by simp [lv], fun j s e => ?_, fun j k us ws a e1 => ?_⟩
  · by_cases h : j < ds.length
    · rw [List.getElem?_append_left (by rw [List.length_map]; exact h), List.getElem?_map] at e
      rw [List.getElem?_append_left (by rw [List.length_map]; omega), List.getElem?_map]
      cases q : ds[j]? with
      | none =>
        rw [q] at e
        cases e
      | some d =>
        rw [q] at e
        cases e
        obtain ⟨v, e1, rv⟩ := r.get q
        rw [e1]
        exact ⟨_, rfl, v, rfl, rv⟩
    · rw [List.getElem?_append_right (by rw [List.length_map]; omega), List.length_map] at e
      rw [List.getElem?_append_right (by rw [List.length_map]; omega), List.length_map, lv]
      obtain ⟨hb, e⟩ := List.getElem?_eq_some_iff.mp e
      rw [List.getElem_replicate] at e
      rw [List.length_replicate] at hb
      subst e
      exact ⟨none, by rw [List.getElem?_eq_getElem (by rw [List.length_replicate]; exact hb), List.getElem_replicate], trivial⟩
  · exfalso
    have hm := List.mem_of_getElem? e1
    rcases List.mem_append.mp hm with h | h
    · obtain ⟨_, _, z⟩ := List.mem_map.mp h
      cases z
    · have := (List.mem_replicate.mp h).2
      cases this
theorem sp_len {K : PySem.W.Frag} {ca : Nat → Addr} {asp : ASp} {n : Nat} (hn : ∀ ds P, asp ds P → ds.length = n) {vs : List V} {H : Hp} {Q : VK} {E : XK} (h : toSp K ca asp vs H Q E) : vs.length = n := by
  obtain ⟨po, F, ds, P, ok, r, a, k⟩ := h
  rw [r.length]
  exact hn ds P a
theorem fn_run {K : PySem.W.Frag} {ca : Nat → Addr} {asp : ASp} {N : List Str} {vs : List V} {H : Hp} {Q : VK} {E : XK} {ts : TS} {as : ASt} (h : toSp K ca asp vs H Q E) (hs : ∀ po, AStm ⟨K, ca, po⟩ ts as) (hl : ∀ ds P, asp ds P → ds.length ≤ N.length)
    (hb : ∀ ds P, asp ds P → as { nx := fun _ => P .non, rt := P } (ds.map Sl.d ++ List.replicate (N.length - ds.length) .u)) : ts { nx := fun _ H' => Q .non H', rt := Q } (L2.start N vs) H := by
  obtain ⟨po, F, ds, P, ok, r, a, k⟩ := h
  exact (hs po).run F H F H _ { nx := fun _ => P .non, rt := P } _ _ F H ok ⟨.refl ok, Sub.refl F H⟩ (mt_start r (hl ds P a))
    ⟨fun σ env F' H' b m p => k .non F' H' .non p b.ex .non, fun v d F' H' b r p => k d F' H' v p b.ex r, fun _ _ _ _ _ _ p => p.elim, fun _ _ _ _ _ _ p => p.elim⟩ (hb ds P a)
/-- a call with one argument, as f on data -/
def UOk (W : Wd) (S : Rel) (r : List V → Hp → VK → Prop) (f : Dat → (Dat → Prop) → Prop) : Prop :=
  ∀ (F : Addr → Prop) (H : Hp) (x : V) (d : Dat) (Q : VK) (P : Dat → Prop), Okk W F H → S W F H x d → f d P → (∀ z F' H' v, P z → Ext W F H F' H' → Rv W F' H' v z → Q v H') → r [x] H Q
/-- .. that makes a list -/
def UFr (W : Wd) (S : Rel) (r : List V → Hp → VK → Prop) (f : Dat → (List Dat → Prop) → Prop) : Prop :=
  ∀ (F : Addr → Prop) (H : Hp) (x : V) (d : Dat) (Q : VK) (P : List Dat → Prop), Okk W F H → S W F H x d → f d P →
    (∀ ds F' H' a vs, P ds → Ext W F H F' H' → H a = none → ¬ F' a → H' a = some (.lst vs) → RvAll W F' H' vs ds → Q (.ref a) H') → r [x] H Q
def a1F (f : Dat → (List Dat → Prop) → Prop) (ea : AEx) : AFr := fun env P => ea env fun x => f x P
/-- the items of a list or a tuple -/
def sQ : Dat → (List Dat → Prop) → Prop
  | .lst xs, P => P xs
  | .tup xs, P => P xs
  | _, _ => False
theorem Pk.seq {W : Wd} {F : Addr → Prop} {H : Hp} {v : V} {d : Dat} {P : List Dat → Prop} (k : Okk W F H) (r : Pk W F H v d) (q : sQ d P) : ∃ a vs xs, v = .ref a ∧ (SqL W.K H a vs ∨ SqT W.K H a vs) ∧ RvAll W F H vs xs ∧ P xs ∧ (d = .lst xs ∧ SqL W.K H a vs ∨ d = .tup xs ∧ SqT W.K H a vs) := by
  cases d with
  | lst xs =>
    obtain ⟨a, vs, rfl, h, _, rr⟩ := r.lst k
    exact ⟨a, vs, xs, rfl, .inl (SqL.of h), rr, q, .inl ⟨rfl, SqL.of h⟩⟩
  | tup xs =>
    cases r with
    | rv r =>
      cases r with
      | tup h rr => exact ⟨_, _, xs, rfl, .inr h.sq, rr, q, .inr ⟨rfl, h.sq⟩⟩
  | _ => exact q.elim
section
variable {W : Wd} {H0 : Hp} {te ta tb : TE} {ae ea eb : AEx} {S : Rel}
theorem a_b1 {r : List V → Hp → VK → Prop} {f : Dat → (Dat → Prop) → Prop} (hr : UOk W S r f) (ha : AEg S W H0 te ea) : AExp W H0 (tCB r (tCons te tNil)) (a1 f ea) :=
  ⟨fun σ env F H Q P ok m q k => ha.run σ env F H _ _ ok m q fun d F1 H1 v p1 x1 r1 => hr F1 H1 v d Q P x1.ok r1 p1 fun z F2 H2 w p2 x2 r2 => k z F2 H2 w p2 (x1.trans ok x2) r2⟩
theorem a_b1F {r : List V → Hp → VK → Prop} {f : Dat → (List Dat → Prop) → Prop} (hr : UFr W S r f) (ha : AEg S W H0 te ea) : AFrs W H0 (tCB r (tCons te tNil)) (a1F f ea) :=
  ⟨fun σ env F H Q P ok m q k => ha.run σ env F H _ _ ok m q fun d F1 H1 v p1 x1 r1 => hr F1 H1 v d Q P x1.ok r1 p1 fun ds F2 H2 a vs p2 x2 n nf h r => k ds F2 H2 a vs p2 (x1.trans ok x2) (x1.there ok n) nf h r⟩
/-- two arguments -/
theorem a_b2 {r : List V → Hp → VK → Prop} {f : Dat → Dat → (Dat → Prop) → Prop} (hr : ROk W Rv Rv Rv (fun x y H Q => r [x, y] H Q) f) (ha : AExp W H0 ta ea) (hb : AExp W H0 tb eb) : AExp W H0 (tCB r (tCons ta (tCons tb tNil))) (a2 f ea eb) :=
  ⟨fun σ env F H Q P ok m q k => ha.run σ env F H _ _ ok m q fun d F1 H1 v p1 x1 r1 => hb.run σ env F1 H1 _ _ x1.ok (m.ext ok x1) p1 fun e F2 H2 u p2 x2 r2 =>
    hr F2 H2 v u d e Q P x2.ok (r1.sub (x2.sub x1.ok)) r2 p2 fun z F3 H3 w p3 x3 r3 => k z F3 H3 w p3 ((x1.trans ok x2).trans ok x3) r3⟩
def kLen : Dat → (Dat → Prop) → Prop := fun d P => sQ d fun xs => P (.int (xs.length : Nat))
theorem u_len : UOk W Pk (rLen W.K) kLen := fun F H x d Q P ok r q k => by
  obtain ⟨a, vs, xs, rfl, h, rr, p, _⟩ := r.seq ok q
  exact ⟨a, vs, rfl, h, by rw [rr.length]; exact k _ F H _ p (.refl ok) (.int _)⟩
theorem u_listOf : UFr W Pk (rListOf W.K) sQ := fun F H x d Q P ok r q k => by
  obtain ⟨a, vs, xs, rfl, h, rr, p, _⟩ := r.seq ok q
  refine ⟨a, vs, rfl, h, fun l n => ?_⟩
  have x2 : Ext W F H F (upd H l (.lst vs)) := Ext.lay ok n
  exact k xs F _ l vs p x2 n (fun f => ok.tr l f n) upd_same (rr.sub (x2.sub ok))
def kTupOf : Dat → (Dat → Prop) → Prop := fun d P => sQ d fun xs => P (.tup xs)
theorem u_tupOf : UOk W Pk (rTupF W.K) kTupOf := fun F H x d Q P ok r q k => by
  cases d with
  | lst xs =>
    obtain ⟨a, vs, rfl, h, _, rr⟩ := r.lst ok
    refine ⟨a, vs, rfl, .inl ⟨SqL.of h, fun l o n tp => ?_⟩⟩
    have x2 : Ext W F H (fun b => F b ∨ b = l) (upd H l o) := Ext.new ok n
    exact k (.tup xs) _ _ _ q x2 (.tup ⟨.inr rfl, o, upd_same, tp⟩ (rr.sub (x2.sub ok)))
  | tup xs =>
    cases r with
    | rv r =>
      cases r with
      | tup h rr => exact ⟨_, _, rfl, .inr ⟨h.sq, k (.tup xs) F H _ q (.refl ok) (.tup h rr)⟩⟩
  | _ => exact q.elim
def kSum : Dat → (Dat → Prop) → Prop
  | .lst xs, P => ∃ ns : List Int, xs = ns.map Dat.int ∧ P (.int ns.sum)
  | _, _ => False
theorem u_sum : UOk W Pk (rSum W.K) kSum := fun F H x d Q P ok r q k => by
  cases d with
  | lst xs =>
    obtain ⟨a, vs, rfl, h, _, rr⟩ := r.lst ok
    obtain ⟨ns, rfl, q⟩ := q
    have e := rr.ints
    subst e
    exact ⟨a, ns, rfl, SqL.of h, k _ F H _ q (.refl ok) (.int _)⟩
  | _ => exact q.elim
def kAll : Dat → (Dat → Prop) → Prop
  | .lst xs, P => ∃ bs : List Bool, xs = bs.map Dat.bl ∧ P (.bl (bs.all id))
  | _, _ => False
theorem u_all : UOk W Pk (rAll W.K) kAll := fun F H x d Q P ok r q k => by
  cases d with
  | lst xs =>
    obtain ⟨a, vs, rfl, h, _, rr⟩ := r.lst ok
    obtain ⟨ns, rfl, q⟩ := q
    have e := rr.bls
    subst e
    exact ⟨a, ns, rfl, SqL.of h, k _ F H _ q (.refl ok) (.bl _)⟩
  | _ => exact q.elim
def kAny : Dat → (Dat → Prop) → Prop
  | .lst xs, P => ∃ bs : List Bool, xs = bs.map Dat.bl ∧ P (.bl (bs.any id))
  | _, _ => False
theorem u_any : UOk W Pk (rAny W.K) kAny := fun F H x d Q P ok r q k => by
  cases d with
  | lst xs =>
    obtain ⟨a, vs, rfl, h, _, rr⟩ := r.lst ok
    obtain ⟨ns, rfl, q⟩ := q
    have e := rr.bls
    subst e
    exact ⟨a, ns, rfl, SqL.of h, k _ F H _ q (.refl ok) (.bl _)⟩
  | _ => exact q.elim
def kInt : Dat → (Dat → Prop) → Prop
  | .int i, P => P (.int i)
  | .bl b, P => P (.int (if b then 1 else 0))
  | _, _ => False
theorem u_int : UOk W Rv (fun xs H Q => (∃ i, xs = [.int i] ∧ Q (.int i) H) ∨ ∃ k, xs = [.bl k] ∧ Q (.int (if k = true then 1 else 0)) H) kInt := fun F H x d Q P ok r q k => by
  cases r with
  | int i => exact .inl ⟨i, rfl, k _ F H _ q (.refl ok) (.int _)⟩
  | bl b => exact .inr ⟨b, rfl, k _ F H _ q (.refl ok) (.int _)⟩
  | _ => exact q.elim
def kStr : Dat → (Dat → Prop) → Prop
  | .int i, P => i.natAbs < 1000000 ∧ P (.str (toString i))
  | _, _ => False
def kMax2 : Dat → Dat → (Dat → Prop) → Prop
  | .int i, .int j, P => P (.int (if j > i then j else i))
  | _, _, _ => False
def kCatS : Dat → Dat → (Dat → Prop) → Prop
  | .str i, .str j, P => i.length + j.length ≤ 100000 ∧ P (.str (i ++ j))
  | _, _, _ => False
def kCatT : Dat → Dat → (Dat → Prop) → Prop
  | .tup xs, .tup ys, P => xs.length + ys.length ≤ 100000 ∧ P (.tup (xs ++ ys))
  | _, _, _ => False
theorem rok_catT : ROk W Rv Rv Rv (rCatF W.K) kCatT := fun F H x y d e Q P ok r1 r2 q k => by
  cases r1 with
  | @tup a1 v1 d1 h1 s1 =>
    cases r2 with
    | @tup a2 v2 d2 h2 s2 =>
      obtain ⟨sz, q⟩ := q
      refine ⟨_, _, _, _, rfl, rfl, h1.sq, h2.sq, Nat.le_of_lt (len_size (by rw [s1.length, s2.length]; exact sz)), fun e => ?_, fun _ e => ?_, fun _ _ a o n tp => ?_⟩
      · subst e
        cases s1
        exact k _ F H _ q (.refl ok) (.tup h2 s2)
      · subst e
        cases s2
        rw [List.append_nil] at q
        exact k _ F H _ q (.refl ok) (.tup h1 s1)
      · have x2 : Ext W F H (fun b => F b ∨ b = a) (upd H a o) := Ext.new ok n
        exact k _ _ _ _ q x2 (.tup ⟨.inr rfl, o, upd_same, tp⟩ ((s1.append s2).sub (x2.sub ok)))
    | _ => exact q.elim
  | _ => exact q.elim
/-- an operation that makes a list -/
def RFr (W : Wd) (S1 S2 : Rel) (r : L2.R2) (f : Dat → Dat → (List Dat → Prop) → Prop) : Prop :=
  ∀ (F : Addr → Prop) (H : Hp) (x y : V) (d e : Dat) (Q : VK) (P : List Dat → Prop), Okk W F H → S1 W F H x d → S2 W F H y e → f d e P →
    (∀ ds F' H' a vs, P ds → Ext W F H F' H' → H a = none → ¬ F' a → H' a = some (.lst vs) → RvAll W F' H' vs ds → Q (.ref a) H') → r x y H Q
def a2F (f : Dat → Dat → (List Dat → Prop) → Prop) (ea eb : AEx) : AFr := fun env P => ea env fun x => eb env fun y => f x y P
theorem a_opF {S1 S2 : Rel} {r : L2.R2} {f : Dat → Dat → (List Dat → Prop) → Prop} (pr : Pst S1) (hr : RFr W S1 S2 r f) (ha : AEg S1 W H0 ta ea) (hb : AEg S2 W H0 tb eb) : AFrs W H0 (tOp r ta tb) (a2F f ea eb) :=
  ⟨fun σ env F H Q P ok m q k => ha.run σ env F H _ _ ok m q fun d F1 H1 v p1 x1 r1 => hb.run σ env F1 H1 _ _ x1.ok (m.ext ok x1) p1 fun e F2 H2 u p2 x2 r2 =>
    hr F2 H2 v u d e Q P x2.ok (pr.run x1.ok x2 r1) r2 p2 fun ds F3 H3 a vs p3 x3 n nf h r => k ds F3 H3 a vs p3 ((x1.trans ok x2).trans ok x3) ((x1.trans ok x2).there ok n) nf h r⟩
def kCatL : Dat → Dat → (List Dat → Prop) → Prop
  | .lst xs, .lst ys, P => xs.length + ys.length ≤ 100000 ∧ P (xs ++ ys)
  | _, _, _ => False
theorem rok_catL : RFr W Pk Pk rCat kCatL := fun F H x y d e Q P ok r1 r2 q k => by
  cases d with
  | lst xs =>
    cases e with
    | lst ys =>
      obtain ⟨a, vs, rfl, h1, _, s1⟩ := r1.lst ok
      obtain ⟨b, ws, rfl, h2, _, s2⟩ := r2.lst ok
      refine ⟨a, b, vs, ws, rfl, rfl, h1, h2, Nat.le_of_lt (len_size (by rw [s1.length, s2.length]; exact q.1)), fun l n => ?_⟩
      have x2 : Ext W F H F (upd H l (.lst (vs ++ ws))) := Ext.lay ok n
      exact k _ F _ l _ q.2 x2 n (fun f => ok.tr l f n) upd_same ((s1.append s2).sub (x2.sub ok))
    | _ => exact q.elim
  | _ => exact q.elim
abbrev AOp := List Sl → (Option Int → Prop) → Prop
structure AOpt (W : Wd) (H0 : Hp) (t : TO) (ao : AOp) : Prop where
  run : ∀ (σ : L2.St) (env : List Sl) (F : Addr → Prop) (H : Hp) (Q : Option Int → Hp → Prop) (P : Option Int → Prop), Okk W F H → Mt W H0 F H σ env → ao env P → (∀ o F' H', P o → Ext W F H F' H' → Q o H') → t σ H Q
def aoN : AOp := fun _ P => P none
def aoS (ea : AEx) : AOp := fun env P => ea env fun x => match x with
  | .int i => P (some i)
  | _ => False
theorem ao_none : AOpt W H0 tNoPart aoN := ⟨fun σ env F H Q P ok m q k => k none F H q (.refl ok)⟩
theorem ao_some (h : AExp W H0 te ea) : AOpt W H0 (tPart te) (aoS ea) := ⟨fun σ env F H Q P ok m q k => h.run σ env F H _ _ ok m q fun d F1 H1 v p1 x1 r1 => by
  cases r1 with
  | int i => exact ⟨i, rfl, k _ F1 H1 p1 x1⟩
  | _ => exact p1.elim⟩
def cutD (xs : List Dat) (lo hi : Option Int) : List Dat := (xs.drop (HT.sIx xs.length 0 lo)).take (HT.sIx xs.length xs.length hi - HT.sIx xs.length 0 lo)
theorem RvAll.cut {F : Addr → Prop} {H : Hp} {vs : List V} {xs : List Dat} (r : RvAll W F H vs xs) (lo hi : Option Int) : RvAll W F H (cutV vs lo hi) (cutD xs lo hi) := by
  unfold cutV cutD
  rw [r.length]
  exact (r.drop _).take _
theorem cutD_all (xs : List Dat) (lo hi : Option Int) (h1 : HT.sIx xs.length 0 lo = 0) (h2 : HT.sIx xs.length xs.length hi = xs.length) : cutD xs lo hi = xs := by
  unfold cutD
  rw [h1, h2]
  simp
def aSlF (ea : AEx) (al ah : AOp) : AFr := fun env P => ea env fun x => al env fun lo => ah env fun hi => lQ x fun xs => P (cutD xs lo hi)
def aSlT (ea : AEx) (al ah : AOp) : AEx := fun env P => ea env fun x => al env fun lo => ah env fun hi => tQ x fun xs => P (.tup (cutD xs lo hi))
theorem a_slL {tl th : TO} {al ah : AOp} (ha : AEg Pk W H0 te ea) (hl : AOpt W H0 tl al) (hh : AOpt W H0 th ah) : AFrs W H0 (tSl (rSlL W.K) te tl th) (aSlF ea al ah) :=
  ⟨fun σ env F H Q P ok m q k => ha.run σ env F H _ _ ok m q fun d F1 H1 v p1 x1 r1 => hl.run σ env F1 H1 _ _ x1.ok (m.ext ok x1) p1 fun lo F2 H2 p2 x2 => hh.run σ env F2 H2 _ _ x2.ok (m.ext ok (x1.trans ok x2)) p2 fun hi F3 H3 p3 x3 => by
    have r3 := pst_pk.run x2.ok x3 (pst_pk.run x1.ok x2 r1)
    cases d with
    | lst xs =>
      obtain ⟨a, vs, rfl, h, _, rr⟩ := r3.lst x3.ok
      refine ⟨a, vs, rfl, SqL.of h, fun l n => ?_⟩
      have x4 : Ext W F3 H3 F3 (upd H3 l (.lst (cutV vs lo hi))) := Ext.lay x3.ok n
      have x13 := (x1.trans ok x2).trans ok x3
      exact k _ F3 _ l _ p3 (x13.trans ok x4) (x13.there ok n) (fun f => x3.ok.tr l f n) upd_same ((rr.cut lo hi).sub (x4.sub x3.ok))
    | _ => exact p3.elim⟩
theorem a_slT {tl th : TO} {al ah : AOp} (ha : AExp W H0 te ea) (hl : AOpt W H0 tl al) (hh : AOpt W H0 th ah) : AExp W H0 (tSl (rSlF W.K) te tl th) (aSlT ea al ah) :=
  ⟨fun σ env F H Q P ok m q k => ha.run σ env F H _ _ ok m q fun d F1 H1 v p1 x1 r1 => hl.run σ env F1 H1 _ _ x1.ok (m.ext ok x1) p1 fun lo F2 H2 p2 x2 => hh.run σ env F2 H2 _ _ x2.ok (m.ext ok (x1.trans ok x2)) p2 fun hi F3 H3 p3 x3 => by
    have r3 := (r1.sub (x2.sub x1.ok)).sub (x3.sub x2.ok)
    have x13 := (x1.trans ok x2).trans ok x3
    cases r3 with
    | @tup a vs xs h rr =>
      refine ⟨a, vs, rfl, h.sq, fun ⟨h1, h2⟩ => ?_, fun _ l o n tp => ?_⟩
      · rw [rr.length] at h1 h2
        have p3 : P (.tup (cutD xs lo hi)) := p3
        rw [cutD_all xs lo hi h1 h2] at p3
        exact k _ F3 H3 _ p3 x13 (.tup h rr)
      · have x4 : Ext W F3 H3 (fun b => F3 b ∨ b = l) (upd H3 l o) := Ext.new x3.ok n
        exact k _ _ _ _ p3 (x13.trans ok x4) (.tup ⟨.inr rfl, o, upd_same, tp⟩ ((rr.cut lo hi).sub (x4.sub x3.ok)))
    | _ => exact p3.elim⟩
end
theorem kQ_sub {W : Wd} {F F2 : Addr → Prop} {H H2 : Hp} {k : Bool} {a : Addr} {vs : List V} (h : if k = true then FzT W F H a vs else F a ∧ H a = some (.lst vs)) (s : Sub F H F2 H2) : SqK k W.K H2 a vs := by
  cases k with
  | true => exact ((show FzT W F H a vs from h).sub s).sq
  | false =>
    have h : F a ∧ H a = some (.lst vs) := h
    exact SqL.of ((s a h.1).2.trans h.2)
theorem kQ_rv {W : Wd} {F : Addr → Prop} {H : Hp} {k : Bool} {v : V} {d : Dat} {P : List Dat → Prop} (r : Rv W F H v d) (q : kQ k d P) : ∃ a vs xs, v = .ref a ∧ (if k = true then FzT W F H a vs else F a ∧ H a = some (.lst vs)) ∧ RvAll W F H vs xs ∧ P xs := by
  cases k with
  | true =>
    cases r with
    | tup h rr => exact ⟨_, _, _, rfl, h, rr, q⟩
    | _ => exact (show False from q).elim
  | false =>
    cases r with
    | lst f h rr => exact ⟨_, _, _, rfl, ⟨f, h⟩, rr, q⟩
    | _ => exact (show False from q).elim
/-- pairs, as far as both go -/
def zipD : List Dat → List Dat → List Dat
  | x :: xs, y :: ys => .tup [x, y] :: zipD xs ys
  | _, _ => []
theorem zipD_get : ∀ (xs ys : List Dat) (i : Nat) (d : Dat), (zipD xs ys)[i]? = some d → ∃ x y, xs[i]? = some x ∧ ys[i]? = some y ∧ d = .tup [x, y]
  | [], _, i, d, e => by simp [zipD] at e
  | _ :: _, [], i, d, e => by simp [zipD] at e
  | x :: xs, y :: ys, 0, d, e => by
    simp only [zipD, List.getElem?_cons_zero, Option.some.injEq] at e
    exact ⟨x, y, rfl, rfl, e.symm⟩
  | x :: xs, y :: ys, i + 1, d, e => by
    simp only [zipD, List.getElem?_cons_succ] at e ⊢
    exact zipD_get xs ys i d e
theorem zipD_len : ∀ xs ys : List Dat, (zipD xs ys).length ≤ xs.length ∧ (zipD xs ys).length ≤ ys.length ∧ ((zipD xs ys).length = xs.length ∨ (zipD xs ys).length = ys.length)
  | [], _ => by simp [zipD]
  | _ :: _, [] => by simp [zipD]
  | x :: xs, y :: ys => by
    have := zipD_len xs ys
    simp only [zipD, List.length_cons]
    omega
def enumD : Nat → List Dat → List Dat
  | _, [] => []
  | n, x :: xs => .tup [.int (n : Nat), x] :: enumD (n + 1) xs
theorem enumD_get : ∀ (xs : List Dat) (n i : Nat) (d : Dat), (enumD n xs)[i]? = some d → ∃ x, xs[i]? = some x ∧ d = .tup [.int ((n + i : Nat) : Int), x]
  | [], n, i, d, e => by simp [enumD] at e
  | x :: xs, n, 0, d, e => by
    simp only [enumD, List.getElem?_cons_zero, Option.some.injEq] at e
    exact ⟨x, rfl, e.symm⟩
  | x :: xs, n, i + 1, d, e => by
    simp only [enumD, List.getElem?_cons_succ] at e ⊢
    obtain ⟨y, h1, h2⟩ := enumD_get xs (n + 1) i d e
    exact ⟨y, h1, by rw [h2, Nat.add_right_comm, Nat.add_assoc]⟩
theorem enumD_len : ∀ (xs : List Dat) (n : Nat), (enumD n xs).length = xs.length
  | [], _ => rfl
  | _ :: xs, n => congrArg (· + 1) (enumD_len xs (n + 1))
def iZipA (k1 k2 : Bool) (aa : AFr) : AFr := fun env P => aa env fun ds => match ds with
  | [x, y] => kQ k1 x fun xs => kQ k2 y fun ys => P (zipD xs ys)
  | _ => False
def iEnA (k : Bool) (aa : AFr) : AFr := fun env P => aa env fun ds => match ds with
  | [x] => kQ k x fun xs => P (enumD 0 xs)
  | _ => False
section
variable {W : Wd} {H0 : Hp} {te ta tb : TE} {ae ea eb : AEx}
theorem i_K {k : Bool} (ha : AExp W H0 ta ea) : AIter W H0 (iK k W.K ta) (iSeq (kQ k) ea) := ⟨fun σ env F H R P ok m q kk => ha.run σ env F H _ _ ok m q fun d F1 H1 v p1 x1 r1 => by
  cases k with
  | true =>
    cases r1 with
    | tup h r => exact ⟨_, rfl, ⟨_, h.sq⟩, kk _ F1 H1 _ p1 x1 (it_tup h r)⟩
    | _ => exact (show False from p1).elim
  | false =>
    cases r1 with
    | lst f h r => exact ⟨_, rfl, ⟨_, SqL.of h⟩, kk _ F1 H1 _ p1 x1 (it_list f h r)⟩
    | _ => exact (show False from p1).elim⟩
theorem i_zip {k1 k2 : Bool} {t : TA} {aa : AFr} (h : AArg W H0 2 t aa) : AIter W H0 (iZipF k1 k2 W.K t) (iZipA k1 k2 aa) := ⟨fun σ env F H R P ok m q kk => h.run σ env F H _ _ ok m q fun ds F1 H1 vs p1 x1 r1 l1 => by
  match ds, l1, p1, r1 with
  | [d, e], _, p1, .cons r1 (.cons r2 .nil) =>
    have p1 : kQ k1 d fun xs => kQ k2 e fun ys => P (zipD xs ys) := p1
    obtain ⟨a, us, xs, rfl, ha, ra, p1⟩ := kQ_rv r1 p1
    obtain ⟨b, ws, ys, rfl, hb, rb, p1⟩ := kQ_rv r2 p1
    have qa := kQ_sub ha (Sub.refl _ _)
    have qb := kQ_sub hb (Sub.refl _ _)
    refine ⟨a, b, us, ws, rfl, qa, qb, kk _ F1 H1 _ p1 x1 ⟨fun F2 H2 ok2 s i z e => ?_, fun F2 H2 ok2 s => ?_⟩⟩
    · obtain ⟨x, y, e1, e2, rfl⟩ := zipD_get xs ys i z e
      obtain ⟨v, f1, rv⟩ := ra.get e1
      obtain ⟨w, f2, rw_⟩ := rb.get e2
      have qa2 := kQ_sub ha s
      have qb2 := kQ_sub hb s
      refine ⟨⟨us, ws, v, w, qa2, qb2, f1, f2⟩, fun u H3 yl => ?_⟩
      obtain ⟨T, v', w', o, rfl, hT, tp, rfl, g1, g2⟩ := yl
      have g1 := g1 us qa2
      have g2 := g2 ws qb2
      rw [f1] at g1
      rw [f2] at g2
      cases g1
      cases g2
      have x2 : Ext W F2 H2 (fun c => F2 c ∨ c = T) (upd H2 T o) := Ext.new ok2 hT
      have s2 := s.trans (x2.sub ok2)
      exact ⟨_, x2, .tup ⟨.inr rfl, o, upd_same, tp⟩ (.cons (rv.sub s2) (.cons (rw_.sub s2) .nil))⟩
    · have := zipD_len xs ys
      have la := ra.length
      have lb := rb.length
      exact ⟨us, ws, kQ_sub ha s, kQ_sub hb s, by omega, by omega, by omega⟩⟩
theorem i_enum {k : Bool} {t : TA} {aa : AFr} (h : AArg W H0 1 t aa) : AIter W H0 (iEnumF k W.K t) (iEnA k aa) := ⟨fun σ env F H R P ok m q kk => h.run σ env F H _ _ ok m q fun ds F1 H1 vs p1 x1 r1 l1 => by
  match ds, l1, p1, r1 with
  | [d], _, p1, .cons r1 .nil =>
    have p1 : kQ k d fun xs => P (enumD 0 xs) := p1
    obtain ⟨a, us, xs, rfl, ha, ra, p1⟩ := kQ_rv r1 p1
    refine ⟨a, us, rfl, kQ_sub ha (Sub.refl _ _), kk _ F1 H1 _ p1 x1 ⟨fun F2 H2 ok2 s i z e => ?_, fun F2 H2 ok2 s => ?_⟩⟩
    · obtain ⟨x, e1, rfl⟩ := enumD_get xs 0 i z e
      obtain ⟨v, f1, rv⟩ := ra.get e1
      have qa2 : SqK k W.K H2 a us := kQ_sub ha s
      refine ⟨⟨us, v, qa2, f1⟩, fun u H3 yl => ?_⟩
      obtain ⟨T, v', o, rfl, hT, tp, rfl, g1⟩ := yl
      have g1 := g1 us qa2
      rw [f1] at g1
      cases g1
      have x2 : Ext W F2 H2 (fun c => F2 c ∨ c = T) (upd H2 T o) := Ext.new ok2 hT
      have s2 := s.trans (x2.sub ok2)
      exact ⟨_, x2, .tup ⟨.inr rfl, o, upd_same, tp⟩ (.cons (by rw [Nat.zero_add]; exact .int _) (.cons (rv.sub s2) .nil))⟩
    · exact ⟨us, kQ_sub ha s, by rw [enumD_len, ra.length]⟩⟩
end
def flatD : Dat → Bool
  | .int _ => true
  | .str _ => true
  | _ => false
/-- x in xs: ints and texts -/
def kIn (n : Bool) : Dat → Dat → (Dat → Prop) → Prop := fun x y P => flatD x = true ∧ sQ y fun xs => xs.all flatD = true ∧ ∀ b : Bool, (b = true ↔ x ∈ xs) → P (.bl (if n then !b else b))
theorem flat_v {W : Wd} {F : Addr → Prop} {H : Hp} {v : V} {d : Dat} (r : Rv W F H v d) (f : flatD d = true) : flatV v = true := by
  cases r <;> first | rfl | cases f
theorem flat_vs {W : Wd} {F : Addr → Prop} {H : Hp} : ∀ {vs : List V} {ds : List Dat}, RvAll W F H vs ds → ds.all flatD = true → vs.all flatV = true
  | _, _, .nil, _ => rfl
  | _, _, .cons a r, f => by
    rw [List.all_cons, Bool.and_eq_true] at f ⊢
    exact ⟨flat_v a f.1, flat_vs r f.2⟩
theorem eqV_flat {W : Wd} {F : Addr → Prop} {H : Hp} {v w : V} {d e : Dat} (r : Rv W F H v d) (s : Rv W F H w e) (f : flatD d = true) (g : flatD e = true) : eqV w v = true ↔ e = d := by
  cases r with
  | int i =>
    cases s with
    | int j =>
      show (j == i) = true ↔ _
      rw [beq_iff_eq]
      exact ⟨fun h => by rw [h], fun h => Dat.int.inj h⟩
    | str y => exact ⟨fun h => (by cases h), fun h => (by cases h)⟩
    | _ => cases g
  | str x =>
    cases s with
    | int j => exact ⟨fun h => (by cases h), fun h => (by cases h)⟩
    | str y =>
      show (y == x) = true ↔ _
      rw [beq_iff_eq]
      exact ⟨fun h => by rw [h], fun h => Dat.str.inj h⟩
    | _ => cases g
  | _ => cases f
theorem inV_mem {W : Wd} {F : Addr → Prop} {H : Hp} {v : V} {d : Dat} (r : Rv W F H v d) (f : flatD d = true) : ∀ {vs : List V} {ds : List Dat}, RvAll W F H vs ds → ds.all flatD = true → (inV v vs = true ↔ d ∈ ds)
  | _, _, .nil, _ => ⟨fun h => (by cases h), fun h => (by cases h)⟩
  | _, _, .cons (v := u) (d := e) a s, g => by
    rw [List.all_cons, Bool.and_eq_true] at g
    have ih := inV_mem r f s g.2
    have he := eqV_flat r a f g.1
    unfold inV at ih ⊢
    rw [List.any_cons, Bool.or_eq_true, ih, he, List.mem_cons]
    exact ⟨fun h => h.imp (fun z => z.symm) id, fun h => h.imp (fun z => z.symm) id⟩
theorem rok_in {W : Wd} {n : Bool} : ROk W Rv Pk Rv (rIn W.K n) (kIn n) := fun F H x y d e Q P ok r1 r2 q k => by
  obtain ⟨f, q⟩ := q
  obtain ⟨a, vs, xs, rfl, h, rr, ⟨g, q⟩, _⟩ := r2.seq ok q
  refine ⟨a, vs, rfl, h, flat_v r1 f, flat_vs rr g, ?_⟩
  have := q (inV x vs) (inV_mem r1 f rr g)
  cases n with
  | true => exact k _ F H _ this (.refl ok) (.bl _)
  | false => exact k _ F H _ this (.refl ok) (.bl _)
mutual
def pyD : Dat → PyData
  | .int i => .int i
  | .str x => .str x
  | .lst xs => .list (pyAll xs)
  | .tup xs => .tuple (pyAll xs)
  | _ => .none
def pyAll : List Dat → List PyData
  | [] => []
  | x :: xs => pyD x :: pyAll xs
end
mutual
def layD : Dat → Bool
  | .int _ => true
  | .str x => PyData.strOk x
  | .lst xs => layAll xs
  | .tup xs => layAll xs
  | .non => true
  | _ => false
def layAll : List Dat → Bool
  | [] => true
  | x :: xs => layD x && layAll xs
end
def okE (n : Nat) (d : Dat) : Prop := layD d = true ∧ PyData.depth (pyD d) ≤ n
mutual
theorem lay_can : ∀ d : Dat, layD d = true → PyData.canLay0 (pyD d) = true
  | .non, _ => rfl
  | .int _, _ => rfl
  | .str _, h => h
  | .lst xs, h => by
    show PyData.canLayAll0 (pyAll xs) = true
    exact layAll_can xs h
  | .tup xs, h => by
    show PyData.canLayAll0 (pyAll xs) = true
    exact layAll_can xs h
  | .bl _, h => by cases h
  | .pool, h => by cases h
  | .obj _ _, h => by cases h
  | .dK _, h => by cases h
theorem layAll_can : ∀ xs : List Dat, layAll xs = true → PyData.canLayAll0 (pyAll xs) = true
  | [], _ => rfl
  | x :: xs, h => by
    have h : (layD x && layAll xs) = true := h
    rw [Bool.and_eq_true] at h
    show (PyData.canLay0 (pyD x) && PyData.canLayAll0 (pyAll xs)) = true
    rw [lay_can x h.1, layAll_can xs h.2]
    rfl
end
mutual
theorem lay_dp {W : Wd} {F : Addr → Prop} {H : Hp} : ∀ {v : V} {d : Dat}, Rv W F H v d → layD d = true → Dp W.K H v (pyD d)
  | _, _, .non, _ => .non
  | _, _, .int i, _ => .int i
  | _, _, .str x, _ => .str x
  | _, _, .lst f h r, q => .lst (SqL.of h) (layAll_dp r q)
  | _, _, .tup h r, q => .tup h.sq (layAll_dp r q)
  | _, _, .bl _, q => by cases q
  | _, _, .pool _, q => by cases q
  | _, _, .obj _ _ _ _, q => by cases q
  | _, _, .dK _ _ _, q => by cases q
theorem layAll_dp {W : Wd} {F : Addr → Prop} {H : Hp} : ∀ {vs : List V} {ds : List Dat}, RvAll W F H vs ds → layAll ds = true → DpAll W.K H vs (pyAll ds)
  | _, _, .nil, _ => .nil
  | _, _, .cons a r, q => by
    have q : (_ && _) = true := q
    rw [Bool.and_eq_true] at q
    exact .cons (lay_dp a q.1) (layAll_dp r q.2)
end
mutual
theorem lay_eqv : ∀ d e : Dat, layD d = true → layD e = true → (PyData.eqv (pyD d) (pyD e) = true ↔ d = e)
  | .int i, .int j, _, _ => by
    show (i == j) = true ↔ _
    rw [beq_iff_eq]
    exact ⟨fun e => by rw [e], fun e => Dat.int.inj e⟩
  | .str i, .str j, _, _ => by
    show (i == j) = true ↔ _
    rw [beq_iff_eq]
    exact ⟨fun e => by rw [e], fun e => Dat.str.inj e⟩
  | .lst xs, .lst ys, h1, h2 => by
    show PyData.eqvAll (pyAll xs) (pyAll ys) = true ↔ _
    rw [layAll_eqv xs ys h1 h2]
    exact ⟨fun e => by rw [e], fun e => Dat.lst.inj e⟩
  | .tup xs, .tup ys, h1, h2 => by
    show PyData.eqvAll (pyAll xs) (pyAll ys) = true ↔ _
    rw [layAll_eqv xs ys h1 h2]
    exact ⟨fun e => by rw [e], fun e => Dat.tup.inj e⟩
  | .non, .non, _, _ => ⟨fun _ => rfl, fun _ => rfl⟩
  | .non, .int _, _, _ => ⟨fun h => (by cases h), fun h => (by cases h)⟩
  | .non, .str _, _, _ => ⟨fun h => (by cases h), fun h => (by cases h)⟩
  | .non, .lst _, _, _ => ⟨fun h => (by cases h), fun h => (by cases h)⟩
  | .non, .tup _, _, _ => ⟨fun h => (by cases h), fun h => (by cases h)⟩
  | .int _, .non, _, _ => ⟨fun h => (by cases h), fun h => (by cases h)⟩
  | .int _, .str _, _, _ => ⟨fun h => (by cases h), fun h => (by cases h)⟩
  | .int _, .lst _, _, _ => ⟨fun h => (by cases h), fun h => (by cases h)⟩
  | .int _, .tup _, _, _ => ⟨fun h => (by cases h), fun h => (by cases h)⟩
  | .str _, .non, _, _ => ⟨fun h => (by cases h), fun h => (by cases h)⟩
  | .str _, .int _, _, _ => ⟨fun h => (by cases h), fun h => (by cases h)⟩
  | .str _, .lst _, _, _ => ⟨fun h => (by cases h), fun h => (by cases h)⟩
  | .str _, .tup _, _, _ => ⟨fun h => (by cases h), fun h => (by cases h)⟩
  | .lst _, .non, _, _ => ⟨fun h => (by cases h), fun h => (by cases h)⟩
  | .lst _, .int _, _, _ => ⟨fun h => (by cases h), fun h => (by cases h)⟩
  | .lst _, .str _, _, _ => ⟨fun h => (by cases h), fun h => (by cases h)⟩
  | .lst _, .tup _, _, _ => ⟨fun h => (by cases h), fun h => (by cases h)⟩
  | .tup _, .non, _, _ => ⟨fun h => (by cases h), fun h => (by cases h)⟩
  | .tup _, .int _, _, _ => ⟨fun h => (by cases h), fun h => (by cases h)⟩
  | .tup _, .str _, _, _ => ⟨fun h => (by cases h), fun h => (by cases h)⟩
  | .tup _, .lst _, _, _ => ⟨fun h => (by cases h), fun h => (by cases h)⟩
  | .bl _, _, h, _ => by cases h
  | .pool, _, h, _ => by cases h
  | .obj _ _, _, h, _ => by cases h
  | .dK _, _, h, _ => by cases h
  | _, .bl _, _, h => by cases h
  | _, .pool, _, h => by cases h
  | _, .obj _ _, _, h => by cases h
  | _, .dK _, _, h => by cases h
theorem layAll_eqv : ∀ xs ys : List Dat, layAll xs = true → layAll ys = true → (PyData.eqvAll (pyAll xs) (pyAll ys) = true ↔ xs = ys)
  | [], [], _, _ => ⟨fun _ => rfl, fun _ => rfl⟩
  | [], _ :: _, _, _ => ⟨fun h => (by cases h), fun h => (by cases h)⟩
  | _ :: _, [], _, _ => ⟨fun h => (by cases h), fun h => (by cases h)⟩
  | x :: xs, y :: ys, h1, h2 => by
    have h1 : (layD x && layAll xs) = true := h1
    have h2 : (layD y && layAll ys) = true := h2
    rw [Bool.and_eq_true] at h1 h2
    show (PyData.eqv (pyD x) (pyD y) && PyData.eqvAll (pyAll xs) (pyAll ys)) = true ↔ _
    rw [Bool.and_eq_true, lay_eqv x y h1.1 h2.1, layAll_eqv xs ys h1.2 h2.2, List.cons.injEq]
end
theorem okE_sh {d : Dat} (h : okE 64 d) : SeqAt.shaped (pyD d) = true := by
  unfold SeqAt.shaped
  rw [lay_can d h.1, decide_eq_true h.2]
  rfl
theorem layAll_of : ∀ {xs : List Dat}, (∀ x ∈ xs, layD x = true) → layAll xs = true
  | [], _ => rfl
  | x :: xs, h => by
    show (layD x && layAll xs) = true
    rw [h x List.mem_cons_self, layAll_of fun y hy => h y (List.mem_cons_of_mem _ hy)]
    rfl
theorem depAll_of : ∀ {xs : List Dat} {n : Nat}, (∀ x ∈ xs, PyData.depth (pyD x) ≤ n) → PyData.depthAll (pyAll xs) ≤ n
  | [], n, _ => Nat.zero_le n
  | x :: xs, n, h => by
    show max (PyData.depth (pyD x)) (PyData.depthAll (pyAll xs)) ≤ n
    exact Nat.max_le.mpr ⟨h x List.mem_cons_self, depAll_of fun y hy => h y (List.mem_cons_of_mem _ hy)⟩
theorem okE.up {n m : Nat} {d : Dat} (h : okE n d) (l : n ≤ m) : okE m d := ⟨h.1, Nat.le_trans h.2 l⟩
theorem okE_int (i : Int) (n : Nat) : okE n (.int i) := ⟨rfl, Nat.zero_le n⟩
theorem okE_tup {xs : List Dat} {n : Nat} (h : ∀ x ∈ xs, okE n x) : okE (n + 1) (.tup xs) := ⟨layAll_of fun x hx => (h x hx).1, Nat.succ_le_succ (depAll_of fun x hx => (h x hx).2)⟩
theorem okE_lst {xs : List Dat} {n : Nat} (h : ∀ x ∈ xs, okE n x) : okE (n + 1) (.lst xs) := ⟨layAll_of fun x hx => (h x hx).1, Nat.succ_le_succ (depAll_of fun x hx => (h x hx).2)⟩
theorem okE_ints (ns : List Int) (n : Nat) : ∀ x ∈ ns.map Dat.int, okE n x := fun x hx => by
  obtain ⟨i, _, rfl⟩ := List.mem_map.mp hx
  exact okE_int i n
def kEqD (n : Bool) : Dat → Dat → (Dat → Prop) → Prop := fun d e P => okE 64 d ∧ okE 64 e ∧ ∀ b : Bool, (b = true ↔ d = e) → P (.bl (if n then !b else b))
theorem Pk.dp {W : Wd} {F : Addr → Prop} {H : Hp} {v : V} {d : Dat} (r : Pk W F H v d) (h : layD d = true) : Dp W.K H v (pyD d) := by
  cases r with
  | rv r => exact lay_dp r h
  | own hA _ r => exact .lst (SqL.of hA) (layAll_dp r h)
theorem rok_eqD {W : Wd} : ROk W Pk Pk Rv (rEqD W.K) (kEqD false) := fun F H x y d e Q P ok r1 r2 ⟨h1, h2, q⟩ k =>
  ⟨_, _, r1.dp h1.1, r2.dp h2.1, okE_sh h1, okE_sh h2, k _ F H _ (q _ (lay_eqv d e h1.1 h2.1)) (.refl ok) (.bl _)⟩
theorem rok_neD {W : Wd} : ROk W Pk Pk Rv (rNeD W.K) (kEqD true) := fun F H x y d e Q P ok r1 r2 ⟨h1, h2, q⟩ k =>
  ⟨_, _, r1.dp h1.1, r2.dp h2.1, okE_sh h1, okE_sh h2, k _ F H _ (q _ (lay_eqv d e h1.1 h2.1)) (.refl ok) (.bl _)⟩
abbrev ASpI := List Dat → (List Dat → Prop) → Prop
def toSpI (K : PySem.W.Frag) (ca : Nat → Addr) (c : Nat) (asp : ASpI) : Sp := fun vs H Q _ => ∃ (po : Option (Addr × Addr)) (F : Addr → Prop) (H1 : Hp) (x dx : Addr) (ws : List V) (ds : List Dat) (P : List Dat → Prop),
  vs = .ref x :: ws ∧ H = upd (upd H1 dx (.own x)) x (.ins (ca c) dx []) ∧ H1 x = none ∧ H1 dx = none ∧ dx ≠ x ∧ Okk ⟨K, ca, po⟩ F H1 ∧ RvAll ⟨K, ca, po⟩ F H1 ws ds ∧ asp ds P ∧
  ∀ fs F' H', P fs → Ext ⟨K, ca, po⟩ F H1 F' H' → Rv ⟨K, ca, po⟩ F' H' (.ref x) (.obj c fs) → Q .non H'
def aMake (c : Nat) (asp : ASpI) (aa : AFr) : AEx := fun env P => aa env fun ds => asp ds fun fs => P (.obj c fs)
theorem a_make {K : PySem.W.Frag} {ca : Nat → Addr} {po : Option (Addr × Addr)} {H0 : Hp} {n c : Nat} {E : XK} {t : TA} {aa : AFr} {asp : ASpI} (h : AArg ⟨K, ca, po⟩ H0 n t aa) :
    AExp ⟨K, ca, po⟩ H0 (tMake (ca c) (toSpI K ca c asp) [] E t) (aMake c asp aa) := ⟨fun σ env F H Q P ok m q k => h.run σ env F H _ _ ok m q fun ds F1 H1 vs p1 x1 r1 _ => by
  intro x dx hx hdx hne
  rw [List.append_nil]
  exact ⟨po, F1, H1, x, dx, vs, ds, _, rfl, rfl, hx, hdx, hne, x1.ok, r1, p1, fun fs F' H' p e r => ⟨rfl, k _ F' H' _ p (x1.trans ok e) r⟩⟩⟩
/-- the statements of an __init__: self.f = e, one for each attribute, in order; k of them are done -/
structure AIni (W : Wd) (c : Nat) (k : Nat) (ts : TS) (ai : List Sl → (List Dat → Prop) → Prop) : Prop where
  run : ∀ (H1 : Hp) (x dx : Addr) (σ : L2.St) (env : List Sl) (F1 F : Addr → Prop) (H : Hp) (fs : List (Str × V)) (ds : List Dat) (De : Ends) (P : List Dat → Prop), H1 x = none → Okk W F1 H1 → Ext W F1 H1 F H → ¬ F x → H x = some (.ins (W.ca c) dx fs) → fs.length ≤ k → RvFs W F H fs ((clsN c).take k) ds →
    (∀ m, m ∉ (clsN c).take k → fs.lookup m = none) → Mt W H1 F H σ env → σ[0]? = some (some (.ref x)) → ai env P →
    (∀ es F' H' σ', P es → Ext W F1 H1 F' H' → Rv W F' H' (.ref x) (.obj c (ds ++ es)) → De.nx σ' H') → ts De σ H
def iNil : List Sl → (List Dat → Prop) → Prop := fun _ P => P []
def iCons (ea : AEx) (ai : List Sl → (List Dat → Prop) → Prop) : List Sl → (List Dat → Prop) → Prop := fun env P => ea env fun d => ai env fun es => P (d :: es)
theorem putF_len (f : Str) (v : V) : ∀ fs : List (Str × V), (putF f v fs).length ≤ fs.length + 1
  | [] => Nat.le_refl _
  | (g, x) :: r => by
    show (if g = f then (g, v) :: r else (g, x) :: putF f v r).length ≤ _
    by_cases h : g = f
    · rw [if_pos h]
      exact Nat.le_succ _
    · rw [if_neg h]
      exact Nat.succ_le_succ (putF_len f v r)
theorem RvFs.len {W : Wd} {F : Addr → Prop} {H : Hp} : ∀ {fs : List (Str × V)} {ks : List Str} {ds : List Dat}, RvFs W F H fs ks ds → ks.length = ds.length
  | _, _, _, .nil => rfl
  | _, _, _, .cons _ _ r => congrArg (· + 1) r.len
theorem RvFs.put {W : Wd} {F : Addr → Prop} {H : Hp} {f : Str} {v : V} : ∀ {fs : List (Str × V)} {ks : List Str} {ds : List Dat}, RvFs W F H fs ks ds → f ∉ ks → RvFs W F H (putF f v fs) ks ds
  | _, _, _, .nil, _ => .nil
  | _, k :: ks, _, .cons e a r, h => .cons (by rw [lookup_putF, if_neg (fun z => h (by rw [z]; exact List.mem_cons_self))]; exact e) a (r.put fun z => h (List.mem_cons_of_mem _ z))
theorem RvFs.snoc {W : Wd} {F : Addr → Prop} {H : Hp} {f : Str} {v : V} {d : Dat} {fs : List (Str × V)} (e : fs.lookup f = some v) (a : Rv W F H v d) : ∀ {ks : List Str} {ds : List Dat}, RvFs W F H fs ks ds → RvFs W F H fs (ks ++ [f]) (ds ++ [d])
  | _, _, .nil => .cons e a .nil
  | _, _, .cons e1 a1 r => .cons e1 a1 (r.snoc e a)
theorem i_nil {W : Wd} {c : Nat} : AIni W c (clsN c).length tNext iNil := ⟨fun H1 x dx σ env F1 F H fs ds De P hx ok1 b nf hX ln r no m s0 q k => by
  rw [List.take_length] at r no
  have b2 : Ext W F1 H1 (fun a => F a ∨ a = x) H := b.fz ok1 hx hX
  refine k [] _ H σ q b2 ?_
  rw [List.append_nil]
  exact .obj (.inr rfl) hX (r.sub (sub_fz x)) no⟩
theorem i_cons {W : Wd} {c k : Nat} {te : TE} {ea : AEx} {f : Str} {ts : TS} {ai : List Sl → (List Dat → Prop) → Prop} (cl : Cls W.K (W.ca c)) (na : NoAttr W.K (W.ca c) f) (hf : (clsN c)[k]? = some f) (nd : f ∉ (clsN c).take k) (hk : k < 900) (he : ∀ H0, AExp W H0 te ea) (h2 : AIni W c (k + 1) ts ai) :
    AIni W c k (tSeq (sFld W.K (tVar 0) te f) ts) (iCons ea ai) := ⟨fun H1 x dx σ env F1 F H fs ds De P hx ok1 b nf hX ln r no m s0 q kk => by
  refine (he H1).run σ env F H _ _ b.ok m q fun d F' H' v p x1 rv => ?_
  have hX' : H' x = some (.ins (W.ca c) dx fs) := x1.kp x _ hX fun p c e => (ok1.pne hx p c e).1
  have nf' : ¬ F' x := fun f => by
    rcases x1.dn x f with z | z
    · exact nf z
    · rw [z] at hX
      cases hX
  refine ⟨.ref x, s0, x, W.ca c, dx, fs, rfl, hX', cl, na, by omega, ?_⟩
  have sb : Sub F' H' F' (upd H' x (.ins (W.ca c) dx (putF f v fs))) := fun a f => ⟨f, upd_ne (fun z => nf' (by rw [← z]; exact f))⟩
  have b' := b.trans ok1 x1
  have np := ok1.pne hx
  have b2 : Ext W F1 H1 F' (upd H' x (.ins (W.ca c) dx (putF f v fs))) := ⟨b'.up, b'.dn, fun a o ha npa => by
    rw [upd_ne (ne_of_none ha hx)]
    exact b'.kp a o ha npa, ⟨fun a f => by
    rw [(sb a f).2]
    exact x1.ok.tr a f, fun p c e => by
    obtain ⟨h1, h2, h3⟩ := x1.ok.po p c e
    exact ⟨h1.mut (np p c e).1 (np p c e).2, h2, h3⟩⟩⟩
  have tk : (clsN c).take (k + 1) = (clsN c).take k ++ [f] := by rw [List.take_add_one, hf]; rfl
  have m' := m.ext b.ok x1
  have lk : (putF f v fs).lookup f = some v := by rw [lookup_putF, if_pos rfl]
  have ll : (putF f v fs).length ≤ k + 1 := by
    have := putF_len f v fs
    omega
  refine h2.run H1 x dx σ env F1 F' _ (putF f v fs) (ds ++ [d]) De _ hx ok1 b2 nf' upd_same ll ?_ (fun mm hm => ?_) ?_ s0 p fun es F2 H2 σ2 pe e2 r2 => ?_
  · rw [tk]
    exact (((r.sub (x1.sub b.ok)).put nd).snoc lk rv).sub sb
  · rw [tk] at hm
    rw [lookup_putF, if_neg (fun z => hm (by rw [z]; exact List.mem_append.mpr (.inr List.mem_cons_self)))]
    exact no mm fun z => hm (List.mem_append.mpr (.inl z))
  · refine ⟨m'.ln, fun i s e => ?_, m'.own⟩
    obtain ⟨ov, eo, so⟩ := m'.at_ i s e
    refine ⟨ov, eo, ?_⟩
    cases s with
    | u => trivial
    | d y =>
      obtain ⟨w, ew, rw_⟩ := so
      exact ⟨w, ew, rw_.sub sb⟩
    | o us =>
      obtain ⟨a, vs, ea, nfa, n0a, ha, ra, npa⟩ := so
      have hax : a ≠ x := fun z => by
        rw [z, hX'] at ha
        cases ha
      exact ⟨a, vs, ea, nfa, n0a, by rw [upd_ne hax]; exact ha, ra.sub sb, npa⟩
  · rw [List.append_assoc] at r2
    exact kk (d :: es) F2 H2 σ2 pe e2 r2⟩
theorem twoI {b : Bool} {p q : Prop} (h1 : b = true → p) (h2 : b = false → q) : two b p q := by
  cases b with
  | true => exact h1 rfl
  | false => exact h2 rfl
theorem twoD {c p q : Prop} [Decidable c] (h1 : c → p) (h2 : ¬ c → q) : two (decide c) p q := twoI (fun h => h1 (of_decide_eq_true h)) (fun h => h2 (of_decide_eq_false h))
theorem twoN {c p q : Prop} [Decidable c] (h1 : ¬ c → p) (h2 : c → q) : two (!decide c) p q := by
  by_cases h : c
  · rw [decide_eq_true h]
    exact h2 h
  · rw [decide_eq_false h]
    exact h1 h
theorem twoY {b : Bool} {p q : Prop} (h : b = true) (k : p) : two b p q := by
  subst h
  exact k
theorem twoZ {b : Bool} {p q : Prop} (h : b = false) (k : q) : two b p q := by
  subst h
  exact k
/-- a loop, by what holds between its turns -/
theorem forA_inv {g : ATg} {b : ASt} {D : AEnds} {ds : List Dat} {env : List Sl} (W : Nat → List Sl → Prop) (h0 : W 0 env)
    (hs : ∀ (i : Nat) (d : Dat) (env : List Sl), ds[i]? = some d → W i env → ∀ N : List Sl → Prop, (∀ env', W (i + 1) env' → N env') → g d env fun env2 => b { D with nx := N, ct := N, bk := D.nx } env2)
    (hd : ∀ env, W ds.length env → D.nx env) : forA g b D ds env := by
  have go : ∀ (n i : Nat) (env : List Sl), n + i = ds.length → W i env → forA g b D (ds.drop i) env := by
    intro n
    induction n with
    | zero =>
      intro i env e w
      have : i = ds.length := by omega
      subst this
      rw [List.drop_length]
      exact hd env w
    | succ n ih =>
      intro i env e w
      have hl : i < ds.length := by omega
      rw [List.drop_eq_getElem_cons hl]
      exact hs i _ env (List.getElem?_eq_getElem hl) w (forA g b D (ds.drop (i + 1))) fun env' w' => ih (i + 1) env' (by omega) w'
  exact go ds.length 0 env (by omega) h0
/-- .. over a range -/
theorem forA_ran {g : ATg} {b : ASt} {D : AEnds} {n : Nat} {lo : Int} {env : List Sl} (W : Nat → List Sl → Prop) (h0 : W 0 env)
    (hs : ∀ (i : Nat) (env : List Sl), i < n → W i env → ∀ N : List Sl → Prop, (∀ env', W (i + 1) env' → N env') → g (.int (lo + i)) env fun env2 => b { D with nx := N, ct := N, bk := D.nx } env2)
    (hd : ∀ env, W n env → D.nx env) : forA g b D ((List.range n).map fun i => Dat.int (lo + (i : Nat))) env := by
  refine forA_inv W h0 (fun i d env e w N hN => ?_) (fun env w => hd env (by rw [List.length_map, List.length_range] at w; exact w))
  rw [List.getElem?_map] at e
  cases h : (List.range n)[i]? with
  | none =>
    rw [h] at e
    cases e
  | some j =>
    rw [h] at e
    obtain ⟨hl, e1⟩ := List.getElem?_eq_some_iff.mp h
    rw [List.getElem_range] at e1
    subst e1
    rw [List.length_range] at hl
    cases e
    exact hs i env hl w N hN
theorem sp_ex {κ : Type} {K : PySem.W.Frag} {ca : Nat → Addr} {a : κ → ASp} {vs : List V} {H : Hp} {Q : VK} {E : XK} (h : toSp K ca (fun ds P => ∃ k, a k ds P) vs H Q E) : ∃ k, toSp K ca (a k) vs H Q E := by
  obtain ⟨po, F, ds, P, ok, r, ⟨k, q⟩, z⟩ := h
  exact ⟨k, po, F, ds, P, ok, r, q, z⟩
theorem forA_map {α : Type} {f : α → Dat} {xs : List α} {g : ATg} {b : ASt} {D : AEnds} {env : List Sl} (W : Nat → List Sl → Prop) (h0 : W 0 env)
    (hs : ∀ (i : Nat) (x : α) (env : List Sl), xs[i]? = some x → W i env → ∀ N : List Sl → Prop, (∀ env', W (i + 1) env' → N env') → g (f x) env fun env2 => b { D with nx := N, ct := N, bk := D.nx } env2)
    (hd : ∀ env, W xs.length env → D.nx env) : forA g b D (xs.map f) env := by
  refine forA_inv W h0 (fun i d env e w N hN => ?_) (fun env w => hd env (by rw [List.length_map] at w; exact w))
  rw [List.getElem?_map] at e
  cases h : xs[i]? with
  | none =>
    rw [h] at e
    cases e
  | some x =>
    rw [h] at e
    cases e
    exact hs i x env h w N hN
theorem lcA_mapL {α : Type} {f : α → Dat} {xs : List α} {el : Dat → (Option Dat → Prop) → Prop} {P : List Dat → Prop} (g : α → Dat) (h : ∀ x ∈ xs, ∀ Q : Option Dat → Prop, Q (some (g x)) → el (f x) Q) (k : P (xs.map g)) : lcA el P (xs.map f) [] := by
  have gen : ∀ (ys : List α) (acc : List Dat), (∀ x ∈ ys, ∀ Q : Option Dat → Prop, Q (some (g x)) → el (f x) Q) → P (acc ++ ys.map g) → lcA el P (ys.map f) acc := by
    intro ys
    induction ys with
    | nil =>
      intro acc _ k
      rw [List.map_nil, List.append_nil] at k
      exact k
    | cons y ys ih =>
      intro acc h k
      refine h y List.mem_cons_self _ ?_
      show lcA el P (ys.map f) (acc ++ [g y])
      refine ih _ (fun x hx => h x (List.mem_cons_of_mem _ hx)) ?_
      rw [List.append_assoc]
      exact k
  exact gen xs [] h k
theorem lcA_relL {α : Type} {f : α → Dat} {xs : List α} {el : Dat → (Option Dat → Prop) → Prop} {P : List Dat → Prop} (R : α → Dat → Prop) (h : ∀ x ∈ xs, ∀ Q : Option Dat → Prop, (∀ y, R x y → Q (some y)) → el (f x) Q) (k : ∀ ys, Paired R xs ys → P ys) : lcA el P (xs.map f) [] := by
  have gen : ∀ (zs : List α) (acc : List Dat), (∀ x ∈ zs, ∀ Q : Option Dat → Prop, (∀ y, R x y → Q (some y)) → el (f x) Q) → (∀ ys, Paired R zs ys → P (acc ++ ys)) → lcA el P (zs.map f) acc := by
    intro zs
    induction zs with
    | nil =>
      intro acc _ k
      have := k [] .nil
      rw [List.append_nil] at this
      exact this
    | cons z zs ih =>
      intro acc h k
      refine h z List.mem_cons_self _ fun y r => ?_
      show lcA el P (zs.map f) (acc ++ [y])
      refine ih _ (fun x hx => h x (List.mem_cons_of_mem _ hx)) fun ys p => ?_
      rw [List.append_assoc]
      exact k (y :: ys) (.cons r p)
  exact gen xs [] h k
theorem paired_ints {α : Type} {xs : List α} {ys : List Dat} {R : α → Int → Prop} (h : Paired (fun x y => ∃ n, y = Dat.int n ∧ R x n) xs ys) : ∃ ns : List Int, ys = ns.map Dat.int ∧ ns.length = xs.length ∧ Paired R xs ns := by
  induction h with
  | nil => exact ⟨[], rfl, rfl, .nil⟩
  | cons r _ ih =>
    obtain ⟨n, rfl, r⟩ := r
    obtain ⟨ns, rfl, l, p⟩ := ih
    exact ⟨n :: ns, rfl, congrArg (· + 1) l, .cons r p⟩
theorem paired_mem {α β : Type} {R : α → β → Prop} : ∀ {xs : List α} {ys : List β}, Paired R xs ys → ∀ y ∈ ys, ∃ x ∈ xs, R x y
  | _, _, .nil, _, h => by cases h
  | _, _, .cons r p, y, h => by
    rcases List.mem_cons.mp h with rfl | h
    · exact ⟨_, List.mem_cons_self, r⟩
    · obtain ⟨x, hx, q⟩ := paired_mem p y h
      exact ⟨x, List.mem_cons_of_mem _ hx, q⟩
theorem fn_weak {P : Program} {w : World} {K : PySem.W.Frag} {mg : Str → Option Value} {base : Heap} {CX : CXT} {k : Nat} {f : Addr} {fd : FuncData} {ps : List Str} {sp sp' : Sp} (h : ∀ vs H Q E, sp' vs H Q E → sp vs H Q E) (F : FnOk P w K mg base CX k f fd ps sp) : FnOk P w K mg base CX k f fd ps sp' := by
  obtain ⟨a, b⟩ := F
  exact ⟨fun vs H Q E z => a vs H Q E (h vs H Q E z), fun i1 i2 i3 i4 i5 i6 i7 i8 i9 i10 i11 i12 i13 z => b i1 i2 i3 i4 i5 i6 i7 i8 i9 i10 i11 i12 i13 (h _ _ _ _ z)⟩
theorem ext_same {W : Wd} {F : Addr → Prop} {H H' : Hp} (k : Okk W F H) (s : Same H H') : Ext W F H F H' :=
  ⟨fun _ f => f, fun _ f => .inl f, fun a o e _ => s a o e, ⟨fun a f => (by
    cases e : H a with
    | none => exact absurd e (k.tr a f)
    | some o =>
      rw [s a o e]
      exact fun z => (by cases z)), fun p c e => ⟨(k.po p c e).1.same s, (k.po p c e).2⟩⟩⟩
/-- a Group, as data -/
def grpD (p q : Int) (bs : List Int) : Dat := .obj 0 [.int p, .int q, .tup (bs.map .int)]
/-- the group of a law -/
def lgD (p q : Int) (bs : List Int) : Dat := .tup [.int p, .int q, .lst (bs.map .int)]
theorem valV_no {k : Key} : ∀ {kvs : List (Key × V)}, k ∉ kvs.map (·.1) → valV kvs k = none
  | [], _ => rfl
  | p :: r, h => by
    rw [List.map_cons, List.mem_cons, not_or] at h
    rw [valV_neg (fun z => h.1 z.symm)]
    exact valV_no h.2
theorem mergeK_new : ∀ (more acc : List (Key × V)), ((acc ++ more).map (·.1)).Nodup → mergeK acc more = acc ++ more
  | [], acc, _ => (List.append_nil acc).symm
  | kv :: more, acc, h => by
    show mergeK (putK acc kv.1 kv.2) more = _
    have h1 : kv.1 ∉ acc.map (·.1) := fun z => by
      rw [List.map_append, List.nodup_append] at h
      exact h.2.2 _ z _ (List.mem_map.mpr ⟨kv, List.mem_cons_self, rfl⟩) rfl
    rw [putK_new _ (valV_no h1)]
    have e : acc ++ [(kv.1, kv.2)] ++ more = acc ++ kv :: more := by rw [List.append_assoc]; rfl
    rw [mergeK_new more _ (by rw [e]; exact h), e]
def dgetD (kds : List (Key × Dat)) (k : Key) : Option Dat := (kds.find? fun kd => decide (kd.1 = k)).map (·.2)
theorem RvKv.dget {W : Wd} {F : Addr → Prop} {H : Hp} {k : Key} {d : Dat} : ∀ {kvs : List (Key × V)} {kds : List (Key × Dat)}, RvKv W F H kvs kds → dgetD kds k = some d → ∃ v, valV kvs k = some v ∧ Rv W F H v d
  | _, _, .nil, e => by cases e
  | _, _, .cons (k := k') (v := v) (kvs := kvs) (d := d') (kds := kds) a r, e => by
    by_cases h : k' = k
    · have e' : dgetD ((k', d') :: kds) k = some d' := by simp [dgetD, List.find?_cons, h]
      rw [e'] at e
      cases e
      exact ⟨v, valV_pos (p := (k', v)) h, a⟩
    · have e' : dgetD ((k', d') :: kds) k = dgetD kds k := by simp [dgetD, List.find?_cons, h]
      rw [e'] at e
      rw [valV_neg (p := (k', v)) h]
      exact r.dget e
theorem RvKv.zip {W : Wd} {F : Addr → Prop} {H : Hp} : ∀ {ks : List Key} {vs : List V} {ds : List Dat}, RvAll W F H vs ds → RvKv W F H (ks.zip vs) (ks.zip ds)
  | [], _, _, _ => .nil
  | _ :: _, _, _, .nil => .nil
  | _ :: _, _, _, .cons a r => .cons a (RvKv.zip r)
theorem kv_strs : ∀ ss : List Str, (ss.map (Sum.inr : Str → Key)).map kV = ss.map V.str
  | [] => rfl
  | s :: ss => congrArg (V.str s :: ·) (kv_strs ss)
section
variable {W : Wd} {H0 : Hp} {te ta tb : TE} {ae ea eb : AEx}
def aDictZip (k1 k2 : Bool) (aa : AFr) : AEx := fun env P => aa env fun ds => match ds with
  | [x, y] => kQ k1 x fun xs => kQ k2 y fun ys => ∃ ss : List Str, xs = ss.map Dat.str ∧ ss.Nodup ∧ P (.dK ((ss.map (Sum.inr : Str → Key)).zip ys))
  | _ => False
theorem a_dictZip {k1 k2 : Bool} {t : TA} {aa : AFr} (h : AArg W H0 2 t aa) : AExp W H0 (tDictZip k1 k2 W.K t) (aDictZip k1 k2 aa) := ⟨fun σ env F H R P ok m q kk => h.run σ env F H _ _ ok m q fun ds F1 H1 vs p1 x1 r1 l1 => by
  match ds, l1, p1, r1 with
  | [d, e], _, p1, .cons r1 (.cons r2 .nil) =>
    have p1 : kQ k1 d fun xs => kQ k2 e fun ys => ∃ ss : List Str, xs = ss.map Dat.str ∧ ss.Nodup ∧ P (.dK ((ss.map (Sum.inr : Str → Key)).zip ys)) := p1
    obtain ⟨a, us, xs, rfl, ha, ra, p1⟩ := kQ_rv r1 p1
    obtain ⟨b, ws, ys, rfl, hb, rb, ss, rfl, nd, p1⟩ := kQ_rv r2 p1
    have eu := ra.strs
    subst eu
    have qa := kQ_sub ha (Sub.refl _ _)
    have qb := kQ_sub hb (Sub.refl _ _)
    refine ⟨a, b, ss.map Sum.inr, ws, rfl, by rw [kv_strs]; exact qa, qb, fun p hp => ?_⟩
    rw [mergeK_new _ [] (by
      rw [List.nil_append]
      have e : ∀ (ks : List Key) (ws : List V), ∃ n, (ks.zip ws).map (·.1) = ks.take n := by
        intro ks
        induction ks with
        | nil => exact fun ws => ⟨0, rfl⟩
        | cons k ks ih =>
          intro ws
          cases ws with
          | nil => exact ⟨0, rfl⟩
          | cons w ws =>
            obtain ⟨n, hn⟩ := ih ws
            refine ⟨n + 1, ?_⟩
            show k :: (ks.zip ws).map (·.1) = k :: ks.take n
            rw [hn]
      obtain ⟨n, hn⟩ := e (ss.map Sum.inr) ws
      rw [hn]
      refine List.Pairwise.sublist (List.take_sublist _ _) ?_
      exact List.Pairwise.map _ (fun a b h z => h (Sum.inr.inj z)) nd), List.nil_append]
    have x2 : Ext W F1 H1 (fun c => F1 c ∨ c = p) (upd H1 p (.dK ((ss.map Sum.inr).zip ws))) := Ext.new x1.ok hp
    exact kk _ _ _ _ p1 (x1.trans ok x2) (.dK (.inr rfl) upd_same ((RvKv.zip rb).sub (x2.sub x1.ok)))⟩
def kDget : Dat → Dat → (Dat → Prop) → Prop
  | .dK kds, .str s, P => oQ (dgetD kds (.inr s)) P
  | .dK kds, .int i, P => oQ (dgetD kds (.inl i)) P
  | _, _, _ => False
theorem a_dget (ha : AExp W H0 ta ea) (hb : AExp W H0 tb eb) : AExp W H0 (tDGet ta tb) (a2 kDget ea eb) := ⟨fun σ env F H Q P ok m q k => ha.run σ env F H _ _ ok m q fun d F1 H1 v p1 x1 r1 => hb.run σ env F1 H1 _ _ x1.ok (m.ext ok x1) p1 fun e F2 H2 u p2 x2 r2 => by
  have r1' := r1.sub (x2.sub x1.ok)
  cases r1' with
  | @dK a kvs kds fa hA rr =>
    cases r2 with
    | str s =>
      have p2 : oQ (dgetD kds (.inr s)) P := p2
      cases g : dgetD kds (.inr s) with
      | none =>
        rw [g] at p2
        exact p2.elim
      | some z =>
        rw [g] at p2
        obtain ⟨w, e1, rw_⟩ := rr.dget g
        exact ⟨a, w, rfl, by rw [← e1]; exact DGet.k (k := .inr s) hA, k z F2 H2 w p2 (x1.trans ok x2) rw_⟩
    | int i =>
      have p2 : oQ (dgetD kds (.inl i)) P := p2
      cases g : dgetD kds (.inl i) with
      | none =>
        rw [g] at p2
        exact p2.elim
      | some z =>
        rw [g] at p2
        obtain ⟨w, e1, rw_⟩ := rr.dget g
        exact ⟨a, w, rfl, by rw [← e1]; exact DGet.k (k := .inl i) hA, k z F2 H2 w p2 (x1.trans ok x2) rw_⟩
    | _ => exact p2.elim
  | _ => exact p2.elim⟩
/-- what isinstance asks of a class of the text -/
structure IsiC (K : PySem.W.Frag) (C : Addr) : Prop where
  cl : Cls K C
  ha : PySem.W.findIn K (.ref C) "__class__" = some (some (.builtin "object.__class__"))
  hn : PySem.W.specialIn K (.builtin "object.__class__") "__get__" = some (some (.builtin "getset_descriptor.__get__"))
  ht : PySem.W.takesIn K (.builtin "object.__class__") = some true
  hm : PySem.W.mroIn K C (.type "object") = some true
def kIsO (c : Nat) : Dat → (Dat → Prop) → Prop
  | .obj c' _, P => c' = c ∧ P (.bl true)
  | _, _ => False
theorem kit_selfA {K : PySem.W.Frag} {S : Addr} : PySem.W.kitOne K (.ref S) (.ref S) = some true := by
  unfold PySem.W.kitOne
  rw [show (Value.ref S == Value.ref S) = true from beq_self_eq_true (Value.ref S)]
  rfl
theorem a_isO {c : Nat} (T : IsiC W.K (W.ca c)) (ha : AExp W H0 ta ea) : AExp W H0 (tCB (rIsi W.K) (tCons ta (tCons (tC (.ref (W.ca c))) tNil))) (a1 (kIsO c) ea) := ⟨fun σ env F H Q P ok m q k => ha.run σ env F H _ _ ok m q fun d F1 H1 v p1 x1 r1 => by
  cases r1 with
  | @obj a dx c' fs ds fa hA rf no =>
    obtain ⟨rfl, p1⟩ := p1
    exact ⟨_, _, _, _, true, rfl, .own _, .base (.ins hA T.cl T.ha T.hn T.ht T.hm), kit_selfA, k _ F1 H1 _ p1 x1 (.bl true)⟩
  | _ => exact p1.elim⟩
def tyD : Dat → String
  | .non => "NoneType"
  | .bl _ => "bool"
  | .int _ => "int"
  | .str _ => "str"
  | .lst _ => "list"
  | .tup _ => "tuple"
  | .pool => "list"
  | .dK _ => "dict"
  | .obj _ _ => ""
  | .cell _ => ""
/-- isinstance(x, T), T one of int, bool, str, list, tuple -/
def kIsT (T : String) : Dat → (Dat → Prop) → Prop := fun d P => match d with
  | .obj _ _ => False
  | .pool => False
  | .dK _ => False
  | .cell _ => False
  | d => P (.bl (decide (tyD d = T) || (decide (tyD d = "bool") && decide (T = "int"))))
theorem kitB_all : ∀ n ∈ ["NoneType", "bool", "int", "str", "list", "tuple"], ∀ T ∈ ["int", "bool", "str", "list", "tuple"], kitB n T = some (decide (n = T) || (decide (n = "bool") && decide (T = "int"))) := by decide +kernel
theorem a_isT {T : String} (hT : T ∈ ["int", "bool", "str", "list", "tuple"] := by decide) (ha : AExp W H0 ta ea) : AExp W H0 (tCB (rIsi W.K) (tCons ta (tCons (tC (.ty T)) tNil))) (a1 (kIsT T) ea) := ⟨fun σ env F H Q P ok m q k => ha.run σ env F H _ _ ok m q fun d F1 H1 v p1 x1 r1 => by
  cases r1 with
  | non => exact ⟨_, _, _, _, _, rfl, .ty _, .base .non, kit_ty (kitB_all "NoneType" (by decide) T hT), k _ F1 H1 _ p1 x1 (.bl _)⟩
  | bl b => exact ⟨_, _, _, _, _, rfl, .ty _, .base (.bl b), kit_ty (kitB_all "bool" (by decide) T hT), k _ F1 H1 _ p1 x1 (.bl _)⟩
  | int b => exact ⟨_, _, _, _, _, rfl, .ty _, .base (.int b), kit_ty (kitB_all "int" (by decide) T hT), k _ F1 H1 _ p1 x1 (.bl _)⟩
  | str b => exact ⟨_, _, _, _, _, rfl, .ty _, .base (.str b), kit_ty (kitB_all "str" (by decide) T hT), k _ F1 H1 _ p1 x1 (.bl _)⟩
  | lst f h r => exact ⟨_, _, _, _, _, rfl, .ty _, .base (.lst h), kit_ty (kitB_all "list" (by decide) T hT), k _ F1 H1 _ p1 x1 (.bl _)⟩
  | tup h r =>
    obtain ⟨fa, o, ho, ob, hd, rfl⟩ := h
    exact ⟨_, _, _, _, _, rfl, .ty _, .fTuple ho, kit_ty (kitB_all "tuple" (by decide) T hT), k _ F1 H1 _ p1 x1 (.bl _)⟩
  | _ => exact p1.elim⟩
def kEqO (c : Nat) (asp : ASp) : Dat → Dat → (Dat → Prop) → Prop := fun x y P => (match x, y with
  | .obj c1 _, .obj c2 _ => c1 = c ∧ c2 = c
  | _, _ => False) ∧ asp [x, y] fun d => ∃ b, d = .bl b ∧ P (.bl b)
theorem rok_eqO {K : PySem.W.Frag} {ca : Nat → Addr} {po : Option (Addr × Addr)} {c : Nat} {asp : ASp} {E : XK} : ROk ⟨K, ca, po⟩ Rv Rv Rv (rEqO (ca c) (toSp K ca asp) E) (kEqO c asp) := fun F H x y d e Q P ok r1 r2 q k => by
  obtain ⟨q0, q⟩ := q
  cases r1 with
  | obj f1 h1 rf1 n1 =>
    cases r2 with
    | obj f2 h2 rf2 n2 =>
      obtain ⟨rfl, rfl⟩ := q0
      exact ⟨_, _, _, _, _, _, rfl, rfl, h1, h2, po, F, _, _, ok, .cons (.obj f1 h1 rf1 n1) (.cons (.obj f2 h2 rf2 n2) .nil), q, fun d F' H' v ⟨b, hb, p⟩ x r => by
        subst hb
        cases r
        exact ⟨⟨b, rfl⟩, k _ F' H' _ p x (.bl b)⟩⟩
    | _ => exact q0.elim
  | _ => exact q0.elim
theorem RvAll.reverse {F : Addr → Prop} {H : Hp} : ∀ {vs : List V} {ds : List Dat}, RvAll W F H vs ds → RvAll W F H vs.reverse ds.reverse
  | _, _, .nil => .nil
  | _, _, .cons a r => by
    rw [List.reverse_cons, List.reverse_cons]
    exact (RvAll.reverse r).append (.cons a .nil)
def aRevT (ea : AEx) : AEx := fun env P => ea env fun x => tQ x fun xs => P (.tup xs.reverse)
def aRevL (ea : AEx) : AFr := fun env P => ea env fun x => lQ x fun xs => P xs.reverse
theorem a_revL (ha : AEg Pk W H0 ta ea) : AFrs W H0 (tRevL W.K ta) (aRevL ea) := ⟨fun σ env F H Q P ok m q k => ha.run σ env F H _ _ ok m q fun d F1 H1 v p1 x1 r1 => by
  cases d with
  | lst xs =>
    obtain ⟨a, vs, rfl, hA, np, rr⟩ := r1.lst x1.ok
    refine ⟨a, vs, rfl, SqL.of hA, fun p hp => ?_⟩
    have x2 : Ext W F1 H1 F1 (upd H1 p (.lst vs.reverse)) := Ext.lay x1.ok hp
    exact k _ _ _ _ _ p1 (x1.trans ok x2) (x1.there ok hp) (fun f => x1.ok.tr p f hp) upd_same (rr.reverse.sub (x2.sub x1.ok))
  | _ => exact p1.elim⟩
theorem i_ran2 {t : TA} {aa : AFr} (h : AArg W H0 2 t aa) : AIter W H0 (iRng2 t) (iRan aa) := ⟨fun σ env F H R P ok m q k => h.run σ env F H _ _ ok m q fun ds F1 H1 vs p1 x1 r1 l1 => by
  match ds, l1, p1, r1 with
  | [.int i, .int j], _, p1, .cons r (.cons r2 .nil) =>
    obtain ⟨p0, p1⟩ := p1
    cases r
    cases r2
    exact ⟨i, j, rfl, ⟨by omega, by omega, by omega, by omega⟩, k _ F1 H1 _ p1 x1 (it_ran i (j - i).toNat)⟩⟩
end
theorem sep3K {N a b c : Addr} (h1 : a < N) (h2 : b < N) (h3 : c < N) : ZipSep3 (N + 5) (N + 3) (N + 4) N (N + 1) (N + 2) [N, a] [N + 1, b] [N + 2, c] :=
  zip_sep3 (fp1 := [a]) (fp2 := [b]) (fp3 := [c]) (fun x hx => by rw [List.mem_singleton.mp hx]; exact h1) (fun x hx => by rw [List.mem_singleton.mp hx]; exact h2) (fun x hx => by rw [List.mem_singleton.mp hx]; exact h3)
/-- the turns of a zip of a, b and c -/
def ItzT (k1 k2 k3 : Bool) (K : PySem.W.Frag) (a b c : Addr) : It where
  go := fun i H => ∃ (xs ys zs : List V) (x y z : V), SqK k1 K H a xs ∧ SqK k2 K H b ys ∧ SqK k3 K H c zs ∧ xs[i]? = some x ∧ ys[i]? = some y ∧ zs[i]? = some z
  yld := fun i H v H' => ∃ T x y z o, v = .ref T ∧ H T = none ∧ TpO o [x, y, z] ∧ H' = upd H T o ∧ (∀ xs, SqK k1 K H a xs → xs[i]? = some x) ∧ (∀ ys, SqK k2 K H b ys → ys[i]? = some y) ∧ ∀ zs, SqK k3 K H c zs → zs[i]? = some z
  stop := fun i H => ∃ xs ys zs : List V, SqK k1 K H a xs ∧ SqK k2 K H b ys ∧ SqK k3 K H c zs ∧ i ≤ xs.length ∧ i ≤ ys.length ∧ i ≤ zs.length ∧ (i = xs.length ∨ i = ys.length ∨ i = zs.length)
theorem at_some {us : List Value} {i : Nat} {u u' : Value} (hu : us[i]? = some u) (eu : us.toArray[i]? = some u') : u' = u := by
  have : us.toArray[i]? = some u := by simpa using hu
  rw [this] at eu
  exact (Option.some.inj eu).symm
theorem turnT {P : Program} {w : World} {K : PySem.W.Frag} {elts : List Expr} {kk : Nat} {tpos : Pos} {k1 k2 k3 : Bool} {a b c z TI TO i1 i2 i3 : Addr} (D : ZipSep3 z TI TO i1 i2 i3 [i1, a] [i2, b] [i3, c]) (na : a ≠ i1) (nb : b ≠ i2) (nc : c ≠ i3) :
    Turn P w K (.Tuple elts kk tpos) (ItzT k1 k2 k3 K a b c) [z, TI, TO, i1, i2, i3] z
      (fun i h => IsZip h z TI TO .none ∧ IsTupOf3 h TI (.ref i1) (.ref i2) (.ref i3) ∧ (∃ x y u, IsTupOf3 h TO x y u) ∧ ItK k1 h i1 a i ∧ ItK k2 h i2 b i ∧ ItK k3 h i3 c i) where
  mem := by simp
  obj := fun i h st c hc => by
    obtain ⟨hz, hTI, ⟨x, y, u, hTO⟩, g1, g2, g3⟩ := st
    simp only [List.mem_cons, List.not_mem_nil, or_false] at hc
    rcases hc with rfl | rfl | rfl | rfl | rfl | rfl
    · exact ⟨_, hz, fun v q => nomatch q⟩
    · exact ⟨_, hTI, fun v q => nomatch q⟩
    · exact ⟨_, hTO, fun v q => nomatch q⟩
    · exact g1.obj
    · exact g2.obj
    · exact g3.obj
  keep := fun i h h' st q => by
    obtain ⟨hz, hTI, ⟨x, y, u, hTO⟩, g1, g2, g3⟩ := st
    exact ⟨q z (by simp) _ hz, q TI (by simp) _ hTI, ⟨x, y, u, q TO (by simp) _ hTO⟩, g1.at fun o => q i1 (by simp) o, g2.at fun o => q i2 (by simp) o, g3.at fun o => q i3 (by simp) o⟩
  item := by
    intro X hP hw hK hc i pins s σ H E I hf st hg
    subst hP hw hK
    obtain ⟨hz, hTI, ⟨x0, y0, u0, hTO⟩, g1, g2, g3⟩ := st
    obtain ⟨xs, ys, zs, x, y, zz, qx, qy, qz, hx, hy, hzz⟩ := hg
    obtain ⟨us, ru, pu, _⟩ := seqK I qx
    obtain ⟨vs, rv, pv, _⟩ := seqK I qy
    obtain ⟨ws, rw', pw, _⟩ := seqK I qz
    obtain ⟨u, hu, ru1⟩ := ru.get hx
    obtain ⟨v, hv, rv1⟩ := rv.get hy
    obtain ⟨t, ht, rt1⟩ := rw'.get hzz
    have zl : z < s.heap.objs.size := Heap.lt_size hz
    have lu : i < us.toArray.size := by simpa using (List.getElem?_eq_some_iff.mp hu).1
    have lv : i < vs.toArray.size := by simpa using (List.getElem?_eq_some_iff.mp hv).1
    have lw : i < ws.toArray.size := by simpa using (List.getElem?_eq_some_iff.mp ht).1
    have hh : X.A.in1.handled = none := I.ok.hd hc
    have d1 := drK (prog := X.prog) (w := X.w) (A := X.A.in1) k1 hh na us.toArray
    have d2 := drK (prog := X.prog) (w := X.w) (A := X.A.in1) k2 hh nb vs.toArray
    have d3 := drK (prog := X.prog) (w := X.w) (A := X.A.in1) k3 hh nc ws.toArray
    refine wpAny_pyNext_zipD3_item D d1 d2 d3 hz hTI hTO ⟨g1, pu⟩ ⟨g2, pv⟩ ⟨g3, pw⟩ lu lv lw fun u' v' t' h' tk eu ev et z1 t1 s1 s2 s3 hT hsz hk => ?_
    have eu' := at_some hu eu
    have ev' := at_some hv ev
    have et' := at_some ht et
    subst eu' ev' et'
    refine ⟨_, rfl, wpAny_letOwnedTupleGo_zip (s := { s with heap := h', toks := tk }) z1 fun h2 z2 sb => ?_⟩
    have hT2 : IsTupOf3 h2 s.heap.objs.size u' v' t' := (sb.2 _ (Nat.ne_of_gt zl)).trans hT
    have new : ObjOk X.prog X.w (upd H s.heap.objs.size (.frz { cls := .type "tuple", data := .seq #[u', v', t'] } (.tup [x, y, zz]))) h2 s.heap.objs.size (.frz { cls := .type "tuple", data := .seq #[u', v', t'] } (.tup [x, y, zz])) := ⟨hT2, Nat.le_of_ble_eq_true rfl, [u', v', t'], .cons ru1 (.cons rv1 (.cons rt1 .nil)), ⟨_, hT2, rfl, _, rfl⟩⟩
    have ks : ∀ c o, c ∉ [z, TI, TO, i1, i2, i3] → s.heap.get? c = some o → h2.get? c = some o := fun c o hb q => by
      simp only [List.mem_cons, List.not_mem_nil, or_false, not_or] at hb
      exact (sb.2 c hb.1).trans (hk c o hb.1 hb.2.2.1 hb.2.2.2.1 hb.2.2.2.2.1 hb.2.2.2.2.2 q)
    have J := I.turnedNew (t' := tk) (ch := [z, TI, TO, i1, i2, i3]) ks hf (Nat.le_refl _) new
    refine ⟨V.ref s.heap.objs.size, _, J, rfl, ⟨_, x, y, zz, _, rfl, I.hok.fresh (Nat.le_refl _), ⟨_, rfl, rfl⟩, rfl, fun l hl => by rw [seqK_inj I hl qx]; exact hx, fun l hl => by rw [seqK_inj I hl qy]; exact hy, fun l hl => by rw [seqK_inj I hl qz]; exact hzz⟩,
      ⟨z2, ?_, ⟨u', v', t', (sb.2 _ D.TOz).trans t1⟩, s1.1.at fun o q => (sb.2 _ D.zi1.symm).trans q, s2.1.at fun o q => (sb.2 _ D.zi2.symm).trans q, s3.1.at fun o q => (sb.2 _ D.zi3.symm).trans q⟩, fun c hcm => ?_⟩
    · exact (sb.2 _ D.TIz).trans (hk _ _ D.TIz D.TITO D.TIi1 D.TIi2 D.TIi3 hTI)
    · have hlt : c < s.heap.objs.size := by
        simp only [List.mem_cons, List.not_mem_nil, or_false] at hcm
        rcases hcm with rfl | rfl | rfl | rfl | rfl | rfl
        · exact zl
        · exact Heap.lt_size hTI
        · exact Heap.lt_size hTO
        · obtain ⟨_, e, _⟩ := g1.obj
          exact Heap.lt_size e
        · obtain ⟨_, e, _⟩ := g2.obj
          exact Heap.lt_size e
        · obtain ⟨_, e, _⟩ := g3.obj
          exact Heap.lt_size e
      rw [upd_ne (Nat.ne_of_lt hlt)]
      exact (hf c hcm).1
  done := by
    intro X hP hw hK hc i pins s σ H E I hf st hg
    subst hP hw hK
    obtain ⟨hz, hTI, ⟨x0, y0, u0, hTO⟩, g1, g2, g3⟩ := st
    obtain ⟨xs, ys, zs, qx, qy, qz, lx, ly, lz, hend⟩ := hg
    obtain ⟨us, ru, pu, _⟩ := seqK I qx
    obtain ⟨vs, rv, pv, _⟩ := seqK I qy
    obtain ⟨ws, rw', pw, _⟩ := seqK I qz
    have e1 := ru.length
    have e2 := rv.length
    have e3 := rw'.length
    have hh : X.A.in1.handled = none := I.ok.hd hc
    have d1 := drK (prog := X.prog) (w := X.w) (A := X.A.in1) k1 hh na us.toArray
    have d2 := drK (prog := X.prog) (w := X.w) (A := X.A.in1) k2 hh nb vs.toArray
    have d3 := drK (prog := X.prog) (w := X.w) (A := X.A.in1) k3 hh nc ws.toArray
    refine wpAny_pyNext_zipD3_end D d1 d2 d3 hz hTI hTO ⟨g1, pu⟩ ⟨g2, pv⟩ ⟨g3, pw⟩ (by simp; omega) (by simp; omega) (by simp; omega) (by simp; omega) fun h' tk hk => ⟨rfl, I.turnedL (t' := tk) (ch := [z, TI, TO, i1, i2, i3]) (fun c o hb q => ?_) hf⟩
    simp only [List.mem_cons, List.not_mem_nil, or_false, not_or] at hb
    exact hk c o hb.1 hb.2.2.1 hb.2.2.2.1 hb.2.2.2.2.1 hb.2.2.2.2.2 q
  self := fun A i s Q E st h => wpAny_pyIter_zip st.1 h
/-- zip(e, e2, e3): the kinds told -/
def iZipT (k1 k2 k3 : Bool) (K : PySem.W.Frag) (ta : TA) : TI := fun σ H R => ta σ H fun vs H1 => ∃ a b c xs ys zs, vs = [.ref a, .ref b, .ref c] ∧ SqK k1 K H1 a xs ∧ SqK k2 K H1 b ys ∧ SqK k3 K H1 c zs ∧ R (ItzT k1 k2 k3 K a b c) H1
theorem fresh6 {X : Cx} {pins : List (Addr × Obj)} {σ : L2.St} {H : Hp} {s : Shared} (I : Inv X pins σ H s) (c : Addr) (hc : c ∈ [s.heap.objs.size + 5, s.heap.objs.size + 3, s.heap.objs.size + 4, s.heap.objs.size, s.heap.objs.size + 1, s.heap.objs.size + 2]) : FpOk X pins H c := by
  have le : s.heap.objs.size ≤ c := by
    simp only [List.mem_cons, List.not_mem_nil, or_false] at hc
    rcases hc with rfl | rfl | rfl | rfl | rfl | rfl
    · exact Nat.le_add_right _ _
    · exact Nat.le_add_right _ _
    · exact Nat.le_add_right _ _
    · exact Nat.le_refl _
    · exact Nat.le_add_right _ _
    · exact Nat.le_add_right _ _
  exact I.fpOk le (I.hok.fresh le)
theorem vals3 {x y z : V} {us : List Value} (h : Vals [x, y, z] us) : ∃ u v w, us = [u, v, w] ∧ RelV x u ∧ RelV y v ∧ RelV z w := by
  cases h with
  | cons a h =>
    cases h with
    | cons b h =>
      cases h with
      | cons c h =>
        cases h
        exact ⟨_, _, _, rfl, a, b, c⟩
theorem pi_zipT (k1 k2 k3 : Bool) {X : Cx} {K : PySem.W.Frag} (hK : X.K = K) {e e2 e3 : Expr} {ta : TA} {p pos tpos : Pos} {elts : List Expr} {kk : Nat} (hg : Gl X "zip") (hm : X.mg "zip" = none) (ha : PA X [e, e2, e3] ta)
    (hs : starEach [e, e2, e3] X.env = (false, eval e X.env) :: starEach [e2, e3] X.env := by rfl) (hpl : (backTo pos (starEach [e2, e3] X.env)).any (·.1) = false := by rfl) :
    PI X (.Tuple elts kk tpos) (.Call (.Name "zip" p) [e, e2, e3] [] pos) (iZipT k1 k2 k3 K ta) := by
  subst hK
  refine ⟨fun pins s σ H R I h => Call_ (ld_blt I hg hm PyProof.Rows.boot_zip (PyProof.Rows.callWith_type1 (thn (ha.run pos pins s σ H _ I h) fun us s1 hh => ?_) hs hpl))⟩
  obtain ⟨vs, H1, I1, r1, a, b, c, xs, ys, zs, rfl, qx, qy, qz, q⟩ := hh
  obtain ⟨u1, u2, u3, rfl, ru, rv, rw'⟩ := vals3 r1
  cases (show u1 = Value.ref a from ru)
  cases (show u2 = Value.ref b from rv)
  cases (show u3 = Value.ref c from rw')
  obtain ⟨us, _, pu, _⟩ := seqK I1 qx
  obtain ⟨ws, _, pw, _⟩ := seqK I1 qy
  obtain ⟨ts, _, pt, _⟩ := seqK I1 qz
  refine zip_begins3 (bgK k1 a us.toArray) (bgK k2 b ws.toArray) (bgK k3 c ts.toArray) pu pw pt fun h' hz hTI hTO o1 o2 o3 hsz hk => wpAny_pyIter_zip hz ?_
  have J : Inv X pins σ H1 { s1 with heap := h' } := I1.kept (t' := s1.toks) hk
  have la : (a : Nat) < s1.heap.objs.size := pu.lt
  have lb : (b : Nat) < s1.heap.objs.size := pw.lt
  have lc : (c : Nat) < s1.heap.objs.size := pt.lt
  exact ⟨_, [s1.heap.objs.size + 5, s1.heap.objs.size + 3, s1.heap.objs.size + 4, s1.heap.objs.size, s1.heap.objs.size + 1, s1.heap.objs.size + 2], _, _, H1, rfl, J,
    turnT (sep3K la lb lc) (Nat.ne_of_lt la) (Nat.ne_of_lt (Nat.lt_succ_of_lt lb)) (Nat.ne_of_lt (Nat.lt_succ_of_lt (Nat.lt_succ_of_lt lc))), ⟨hz, hTI, ⟨_, _, _, hTO⟩, itK0 o1, itK0 o2, itK0 o3⟩, fresh6 I1, q⟩
def zip3D : List Dat → List Dat → List Dat → List Dat
  | x :: xs, y :: ys, z :: zs => .tup [x, y, z] :: zip3D xs ys zs
  | _, _, _ => []
theorem zip3D_get : ∀ (xs ys zs : List Dat) (i : Nat) (d : Dat), (zip3D xs ys zs)[i]? = some d → ∃ x y z, xs[i]? = some x ∧ ys[i]? = some y ∧ zs[i]? = some z ∧ d = .tup [x, y, z]
  | [], _, _, i, d, e => by simp [zip3D] at e
  | _ :: _, [], _, i, d, e => by simp [zip3D] at e
  | _ :: _, _ :: _, [], i, d, e => by simp [zip3D] at e
  | x :: xs, y :: ys, z :: zs, 0, d, e => by
    simp only [zip3D, List.getElem?_cons_zero, Option.some.injEq] at e
    exact ⟨x, y, z, rfl, rfl, rfl, e.symm⟩
  | x :: xs, y :: ys, z :: zs, i + 1, d, e => by
    simp only [zip3D, List.getElem?_cons_succ] at e ⊢
    exact zip3D_get xs ys zs i d e
theorem zip3D_len : ∀ xs ys zs : List Dat, (zip3D xs ys zs).length ≤ xs.length ∧ (zip3D xs ys zs).length ≤ ys.length ∧ (zip3D xs ys zs).length ≤ zs.length ∧ ((zip3D xs ys zs).length = xs.length ∨ (zip3D xs ys zs).length = ys.length ∨ (zip3D xs ys zs).length = zs.length)
  | [], _, _ => by simp [zip3D]
  | _ :: _, [], _ => by simp [zip3D]
  | _ :: _, _ :: _, [] => by simp [zip3D]
  | x :: xs, y :: ys, z :: zs => by
    have := zip3D_len xs ys zs
    simp only [zip3D, List.length_cons]
    omega
def iZip3A (k1 k2 k3 : Bool) (aa : AFr) : AFr := fun env P => aa env fun ds => match ds with
  | [x, y, z] => kQ k1 x fun xs => kQ k2 y fun ys => kQ k3 z fun zs => P (zip3D xs ys zs)
  | _ => False
theorem i_zip3 {W : Wd} {H0 : Hp} {k1 k2 k3 : Bool} {t : TA} {aa : AFr} (h : AArg W H0 3 t aa) : AIter W H0 (iZipT k1 k2 k3 W.K t) (iZip3A k1 k2 k3 aa) := ⟨fun σ env F H R P ok m q kk => h.run σ env F H _ _ ok m q fun ds F1 H1 vs p1 x1 r1 l1 => by
  match ds, l1, p1, r1 with
  | [d, e, f], _, p1, .cons r1 (.cons r2 (.cons r3 .nil)) =>
    have p1 : kQ k1 d fun xs => kQ k2 e fun ys => kQ k3 f fun zs => P (zip3D xs ys zs) := p1
    obtain ⟨a, us, xs, rfl, ha, ra, p1⟩ := kQ_rv r1 p1
    obtain ⟨b, ws, ys, rfl, hb, rb, p1⟩ := kQ_rv r2 p1
    obtain ⟨c, ts, zs, rfl, hc, rc, p1⟩ := kQ_rv r3 p1
    refine ⟨a, b, c, us, ws, ts, rfl, kQ_sub ha (Sub.refl _ _), kQ_sub hb (Sub.refl _ _), kQ_sub hc (Sub.refl _ _), kk _ F1 H1 _ p1 x1 ⟨fun F2 H2 ok2 s i z e => ?_, fun F2 H2 ok2 s => ?_⟩⟩
    · obtain ⟨x, y, z', e1, e2, e3, rfl⟩ := zip3D_get xs ys zs i z e
      obtain ⟨v, f1, rv⟩ := ra.get e1
      obtain ⟨w, f2, rw_⟩ := rb.get e2
      obtain ⟨t, f3, rt⟩ := rc.get e3
      have qa2 : SqK k1 W.K H2 a us := kQ_sub ha s
      have qb2 : SqK k2 W.K H2 b ws := kQ_sub hb s
      have qc2 : SqK k3 W.K H2 c ts := kQ_sub hc s
      refine ⟨⟨us, ws, ts, v, w, t, qa2, qb2, qc2, f1, f2, f3⟩, fun u H3 yl => ?_⟩
      obtain ⟨T, v', w', t', o, rfl, hT, tp, rfl, g1, g2, g3⟩ := yl
      have g1 := g1 us qa2
      have g2 := g2 ws qb2
      have g3 := g3 ts qc2
      rw [f1] at g1
      rw [f2] at g2
      rw [f3] at g3
      cases g1
      cases g2
      cases g3
      have x2 : Ext W F2 H2 (fun c => F2 c ∨ c = T) (upd H2 T o) := Ext.new ok2 hT
      have s2 := s.trans (x2.sub ok2)
      exact ⟨_, x2, .tup ⟨.inr rfl, o, upd_same, tp⟩ (.cons (rv.sub s2) (.cons (rw_.sub s2) (.cons (rt.sub s2) .nil)))⟩
    · have := zip3D_len xs ys zs
      have la := ra.length
      have lb := rb.length
      have lc := rc.length
      exact ⟨us, ws, ts, kQ_sub ha s, kQ_sub hb s, kQ_sub hc s, by omega, by omega, by omega, by omega⟩⟩
inductive Ce where
  | lst (xs : List Dat)
  | obj (k : Nat) (ds : List Dat)
  | dK (kvs : List (Key × Dat))
  | xd (k : Nat) (ds : List Dat)
abbrev Sto := Addr → Option Ce
def Sto.put (M : Sto) (a : Addr) (c : Option Ce) : Sto := fun b => if b = a then c else M b
theorem Sto.put_s {M : Sto} {a : Addr} {c : Option Ce} : M.put a c a = c := if_pos rfl
theorem Sto.put_n {M : Sto} {a b : Addr} {c : Option Ce} (h : b ≠ a) : M.put a c b = M b := if_neg h
/-- the attribute of the errors of a class, by the class's number -/
def xcN : Nat → Option Str
  | 10 => some "what"
  | 11 => some "what"
  | 12 => some "what"
  | 13 => some "what"
  | 14 => some "at"
  | _ => none
def CeOk (W : Wd) (F : Addr → Prop) (H : Hp) (a : Addr) : Ce → Prop
  | .lst xs => ∃ vs, H a = some (.lst vs) ∧ RvAll W F H vs xs
  | .obj k ds => ∃ dx fs, H a = some (.ins (W.ca k) dx fs) ∧ fs.length ≤ ds.length ∧ RvFs W F H fs ((clsN k).take ds.length) ds ∧ ∀ m, m ∉ (clsN k).take ds.length → fs.lookup m = none
  | .dK kvs => ∃ us, H a = some (.dK us) ∧ RvKv W F H us kvs
  | .xd k ds => ∃ f v x, xcN k = some f ∧ H a = some (.xd [(f, v)]) ∧ ds = [x] ∧ Rv W F H v x
theorem CeOk.there {W : Wd} {F : Addr → Prop} {H : Hp} {a : Addr} : ∀ {c : Ce}, CeOk W F H a c → H a ≠ none
  | .lst _, ⟨_, h, _⟩ => fun z => by rw [z] at h; cases h
  | .obj _ _, ⟨_, _, h, _⟩ => fun z => by rw [z] at h; cases h
  | .dK _, ⟨_, h, _⟩ => fun z => by rw [z] at h; cases h
  | .xd _ _, ⟨_, _, _, _, h, _⟩ => fun z => by rw [z] at h; cases h
theorem CeOk.sub {W : Wd} {F F' : Addr → Prop} {H H' : Hp} {a : Addr} (s : Sub F H F' H') (e : H' a = H a) : ∀ {c : Ce}, CeOk W F H a c → CeOk W F' H' a c
  | .lst _, ⟨vs, h, r⟩ => ⟨vs, e.trans h, r.sub s⟩
  | .obj _ _, ⟨dx, fs, h, l, r, n⟩ => ⟨dx, fs, e.trans h, l, r.sub s, n⟩
  | .dK _, ⟨us, h, r⟩ => ⟨us, e.trans h, r.sub s⟩
  | .xd _ _, ⟨f, v, x, h0, h, h1, r⟩ => ⟨f, v, x, h0, e.trans h, h1, r.sub s⟩
/-- not the pool, nor its copy -/
def NPc (W : Wd) (a : Addr) : Prop := ∀ p c, W.po = some (p, c) → a ≠ p ∧ a ≠ c
theorem NPc.np {W : Wd} {a : Addr} (h : NPc W a) : NPo W a := fun p c e => (h p c e).1
structure SoOk (W : Wd) (F : Addr → Prop) (H : Hp) (M : Sto) : Prop where
  ok : Okk W F H
  at_ : ∀ a c, M a = some c → ¬ F a ∧ NPc W a ∧ CeOk W F H a c
structure Ex2 (W : Wd) (F : Addr → Prop) (H : Hp) (M : Sto) (F' : Addr → Prop) (H' : Hp) (M' : Sto) : Prop where
  up : ∀ a, F a → F' a
  dn : ∀ a, F' a → F a ∨ H a = none ∨ M a ≠ none
  kp : ∀ a o, H a = some o → NPo W a → M a = none → H' a = some o
  al : ∀ a, H a ≠ none → H' a ≠ none
  md : ∀ a, M' a ≠ none → M a ≠ none ∨ H a = none
  ok : SoOk W F' H' M'
section
variable {W : Wd} {F F' F2 : Addr → Prop} {H H' H2 : Hp} {M M' M2 : Sto}
theorem SoOk.nf (ok : SoOk W F H M) {a : Addr} (f : F a) : M a = none := by
  cases e : M a with
  | none => rfl
  | some c => exact absurd f (ok.at_ a c e).1
theorem SoOk.al (ok : SoOk W F H M) {a : Addr} (h : M a ≠ none) : H a ≠ none := by
  cases e : M a with
  | none => exact absurd e h
  | some c => exact (ok.at_ a c e).2.2.there
theorem SoOk.new (ok : SoOk W F H M) {a : Addr} (h : H a = none) : M a = none := by
  cases e : M a with
  | none => rfl
  | some c => exact absurd h (ok.al (by rw [e]; exact fun z => by cases z))
theorem Ex2.sub (ok : SoOk W F H M) (x : Ex2 W F H M F' H' M') : Sub F H F' H' := fun a f => by
  refine ⟨x.up a f, ?_⟩
  cases e : H a with
  | none => exact absurd e (ok.ok.tr a f)
  | some o => exact x.kp a o e (ok.ok.np f) (ok.nf f)
theorem Ex2.refl (ok : SoOk W F H M) : Ex2 W F H M F H M := ⟨fun _ f => f, fun _ f => .inl f, fun _ _ e _ _ => e, fun _ h => h, fun _ h => .inl h, ok⟩
theorem Ex2.there (x : Ex2 W F H M F' H' M') {a : Addr} (h : H' a = none) : H a = none := by
  cases e : H a with
  | none => rfl
  | some o => exact absurd h (x.al a (by rw [e]; exact fun z => by cases z))
theorem Ex2.trans (x : Ex2 W F H M F' H' M') (y : Ex2 W F' H' M' F2 H2 M2) : Ex2 W F H M F2 H2 M2 := by
  refine ⟨fun a f => y.up a (x.up a f), fun a f => ?_, fun a o e n m => ?_, fun a h => y.al a (x.al a h), fun a h => ?_, y.ok⟩
  · rcases y.dn a f with z | z | z
    · exact x.dn a z
    · exact .inr (.inl (x.there z))
    · rcases x.md a z with u | u
      · exact .inr (.inr u)
      · exact .inr (.inl u)
  · refine y.kp a o (x.kp a o e n m) n ?_
    cases e2 : M' a with
    | none => rfl
    | some c =>
      rcases x.md a (by rw [e2]; exact fun z => by cases z) with u | u
      · exact absurd m u
      · rw [u] at e
        cases e
  · rcases y.md a h with z | z
    · exact x.md a z
    · exact .inr (x.there z)
theorem Ext.ex2 (ok : SoOk W F H M) (x : Ext W F H F' H') : Ex2 W F H M F' H' M := by
  refine ⟨x.up, fun a f => ?_, fun a o e n _ => x.kp a o e n, fun a h z => h (x.there ok.ok z), fun a h => .inl h, x.ok, fun a c e => ?_⟩
  · rcases x.dn a f with z | z
    · exact .inl z
    · exact .inr (.inl z)
  · obtain ⟨h1, h2, h3⟩ := ok.at_ a c e
    have ha : H' a = H a := by
      cases e2 : H a with
      | none => exact absurd e2 h3.there
      | some o => exact x.kp a o e2 h2.np
    refine ⟨fun f => ?_, h2, h3.sub (x.sub ok.ok) ha⟩
    rcases x.dn a f with z | z
    · exact h1 z
    · exact h3.there z
/-- what stood apart from cells and data stays apart -/
theorem Ex2.own (x : Ex2 W F H M F' H' M') {a : Addr} {o : HO} (nf : ¬ F a) (hA : H a = some o) (m : M a = none) (np : NPc W a) : ¬ F' a ∧ H' a = some o ∧ M' a = none := by
  refine ⟨fun f => ?_, x.kp a o hA np.np m, ?_⟩
  · rcases x.dn a f with z | z | z
    · exact nf z
    · rw [z] at hA
      cases hA
    · exact z m
  · cases e2 : M' a with
    | none => rfl
    | some c =>
      rcases x.md a (by rw [e2]; exact fun z => by cases z) with u | u
      · exact absurd m u
      · rw [u] at hA
        cases hA
/-- the same store, the heap changed at one address that is neither data nor a cell -/
theorem SoOk.upd_own (ok : SoOk W F H M) {a : Addr} {o : HO} (nf : ¬ F a) (m : M a = none) (np : NPc W a) : SoOk W F (upd H a o) M := by
  have sb : Sub F H F (upd H a o) := fun c f => ⟨f, upd_ne (fun z => nf (by rw [← z]; exact f))⟩
  refine ⟨⟨fun c f => ?_, fun p c ep => ?_⟩, fun c e h => ?_⟩
  · rw [(sb c f).2]
    exact ok.ok.tr c f
  · obtain ⟨h1, h2, h3⟩ := ok.ok.po p c ep
    exact ⟨h1.mut (np p c ep).1 (np p c ep).2, h2, h3⟩
  · obtain ⟨h1, h2, h3⟩ := ok.at_ c e h
    have hne : c ≠ a := fun z => by rw [z, m] at h; cases h
    exact ⟨h1, h2, h3.sub sb (upd_ne hne)⟩
/-- a cell is changed -/
theorem SoOk.upd_cell (ok : SoOk W F H M) {a : Addr} {o : HO} {c0 c1 : Ce} (h0 : M a = some c0) (h1 : CeOk W F (upd H a o) a c1) : Ex2 W F H M F (upd H a o) (M.put a (some c1)) := by
  obtain ⟨nf, np, c3⟩ := ok.at_ a c0 h0
  have sb : Sub F H F (upd H a o) := fun c f => ⟨f, upd_ne (fun z => nf (by rw [← z]; exact f))⟩
  refine ⟨fun _ f => f, fun _ f => .inl f, fun b u e n m => ?_, fun b h => ?_, fun b h => ?_, ⟨fun c f => ?_, fun p c ep => ?_⟩, fun c e h => ?_⟩
  · have hne : b ≠ a := fun z => by rw [z, h0] at m; cases m
    rw [upd_ne hne]
    exact e
  · by_cases z : b = a
    · rw [z, upd_same]
      exact fun z => by cases z
    · rw [upd_ne z]
      exact h
  · by_cases z : b = a
    · rw [z, h0]
      exact .inl fun z => by cases z
    · rw [Sto.put_n z] at h
      exact .inl h
  · rw [(sb c f).2]
    exact ok.ok.tr c f
  · obtain ⟨h1, h2, h3⟩ := ok.ok.po p c ep
    exact ⟨h1.mut (np p c ep).1 (np p c ep).2, h2, h3⟩
  · by_cases z : c = a
    · subst z
      rw [Sto.put_s] at h
      cases h
      exact ⟨nf, np, h1⟩
    · rw [Sto.put_n z] at h
      obtain ⟨k1, k2, k3⟩ := ok.at_ c e h
      exact ⟨k1, k2, k3.sub sb (upd_ne z)⟩
/-- a new cell: its object stands, apart from all else -/
theorem SoOk.new_cell (ok : SoOk W F H M) {a : Addr} {c1 : Ce} (nf : ¬ F a) (m : M a = none) (np : NPc W a) (h1 : CeOk W F H a c1) : SoOk W F H (M.put a (some c1)) := by
  refine ⟨ok.ok, fun c e h => ?_⟩
  by_cases z : c = a
  · subst z
    rw [Sto.put_s] at h
    cases h
    exact ⟨nf, np, h1⟩
  · rw [Sto.put_n z] at h
    exact ok.at_ c e h
/-- an address that stands apart is settled -/
theorem SoOk.fz (ok : SoOk W F H M) {a : Addr} (h : H a ≠ none) (m : M a = none) (np : NPc W a) : SoOk W (fun b => F b ∨ b = a) H M := by
  have sb : Sub F H (fun b => F b ∨ b = a) H := fun _ f => ⟨.inl f, rfl⟩
  refine ⟨⟨fun c f => ?_, fun p c ep => ?_⟩, fun c e q => ?_⟩
  · rcases f with f | rfl
    · exact ok.ok.tr c f
    · exact h
  · obtain ⟨h1, h2, h3⟩ := ok.ok.po p c ep
    refine ⟨h1, fun f => ?_, fun f => ?_⟩
    · rcases f with f | f
      · exact h2 f
      · exact (np p c ep).1 f.symm
    · rcases f with f | f
      · exact h3 f
      · exact (np p c ep).2 f.symm
  · obtain ⟨k1, k2, k3⟩ := ok.at_ c e q
    refine ⟨fun f => ?_, k2, k3.sub sb rfl⟩
    rcases f with f | f
    · exact k1 f
    · rw [f, m] at q
      cases q
end
/-- the heap at the entry of a def, with the cells: what the def's own lists are not -/
def mask (H0 : Hp) (M : Sto) : Hp := fun a => match M a with
  | some _ => some (.lst [])
  | none => H0 a
theorem mask_none {H0 : Hp} {M : Sto} {a : Addr} : mask H0 M a = none ↔ M a = none ∧ H0 a = none := by
  unfold mask
  cases M a with
  | none => exact ⟨fun h => ⟨rfl, h⟩, fun h => h.2⟩
  | some c => exact ⟨fun h => (by cases h), fun h => (by cases h.1)⟩
abbrev Mt2 (W : Wd) (H0 : Hp) (F : Addr → Prop) (H : Hp) (M : Sto) (σ : L2.St) (env : List Sl) : Prop := Mt W (mask H0 M) F H σ env
theorem Mt.ex2 {W : Wd} {H0 : Hp} {F F' : Addr → Prop} {H H' : Hp} {M M' : Sto} {σ : L2.St} {env : List Sl} (ok : SoOk W F H M) (x : Ex2 W F H M F' H' M') (m : Mt2 W H0 F H M σ env) : Mt2 W H0 F' H' M' σ env :=
  ⟨m.ln, fun i s e => by
    obtain ⟨ov, e1, r⟩ := m.at_ i s e
    refine ⟨ov, e1, ?_⟩
    cases s with
    | u => trivial
    | d y =>
      obtain ⟨v, e, r⟩ := r
      exact ⟨v, e, r.sub (x.sub ok)⟩
    | o xs =>
      obtain ⟨a, vs, e, nf, n0, h, r, np⟩ := r
      obtain ⟨m0, n0⟩ := mask_none.mp n0
      obtain ⟨h1, h2, h3⟩ := x.own nf h m0 np
      exact ⟨a, vs, e, h1, mask_none.mpr ⟨h3, n0⟩, h2, r.sub (x.sub ok), np⟩, m.own⟩
abbrev XD := Nat → List Dat → Sto → Prop
/-- what an error carries: nothing, or a new dict with its one attribute -/
def XAt (W : Wd) (F : Addr → Prop) (H : Hp) (M : Sto) (k : Nat) (d : Option Addr) (ds : List Dat) : Prop := match xcN k with
  | none => d = none ∧ ds = []
  | some f => ∃ a v x, d = some a ∧ H a = some (.xd [(f, v)]) ∧ ds = [x] ∧ Rv W F H v x ∧ ¬ F a ∧ M a = none ∧ NPc W a
def XOk (W : Wd) (F : Addr → Prop) (H : Hp) (M : Sto) (E : XK) (X : XD) : Prop := ∀ k ds d F' H' M', Ex2 W F H M F' H' M' → XAt W F' H' M' k d ds → (∀ a, d = some a → H a = none) → X k ds M' → E (.ref (W.ca k)) d H'
theorem XOk.step {W : Wd} {F F' : Addr → Prop} {H H' : Hp} {M M' : Sto} {E : XK} {X : XD} (x : Ex2 W F H M F' H' M') (h : XOk W F H M E X) : XOk W F' H' M' E X := fun k ds d F2 H2 M2 y xa nw => h k ds d F2 H2 M2 (x.trans y) xa fun a e => x.there (nw a e)
/-- what becomes of an error, by the slots -/
abbrev XS := L2.St → XK
structure Cfg (W : Wd) (H0 : Hp) (E : XS) (F : Addr → Prop) (H : Hp) (M : Sto) (σ : L2.St) (env : List Sl) (X : XD) : Prop where
  st : SoOk W F H M
  m : Mt2 W H0 F H M σ env
  x : XOk W F H M (E σ) X
theorem Cfg.step {W : Wd} {H0 : Hp} {E : XS} {F F' : Addr → Prop} {H H' : Hp} {M M' : Sto} {σ : L2.St} {env : List Sl} {X : XD} (c : Cfg W H0 E F H M σ env X) (x : Ex2 W F H M F' H' M') : Cfg W H0 E F' H' M' σ env X :=
  ⟨x.ok, c.m.ex2 c.st x, c.x.step x⟩
abbrev BEx := List Sl → Sto → XD → (Dat → Sto → Prop) → Prop
abbrev BFr := List Sl → Sto → XD → (List Dat → Sto → Prop) → Prop
abbrev BTs := List Sl → Sto → XD → (Bool → Sto → Prop) → Prop
abbrev Rel2 := Wd → (Addr → Prop) → Hp → Sto → V → Dat → Prop
def Rv2 : Rel2 := fun W F H _ v d => Rv W F H v d
/-- read, not kept -/
inductive Pk2 (W : Wd) (F : Addr → Prop) (H : Hp) (M : Sto) : V → Dat → Prop
  | rv {v : V} {d : Dat} : Rv W F H v d → Pk2 W F H M v d
  | own {a : Addr} {vs : List V} {ds : List Dat} : H a = some (.lst vs) → NPo W a → M a = none → ¬ F a → RvAll W F H vs ds → Pk2 W F H M (.ref a) (.lst ds)
structure Pst2 (R : Rel2) : Prop where
  run : ∀ {W : Wd} {F F' : Addr → Prop} {H H' : Hp} {M M' : Sto} {v : V} {d : Dat}, SoOk W F H M → Ex2 W F H M F' H' M' → R W F H M v d → R W F' H' M' v d
theorem pst_pk2 : Pst2 Pk2 := ⟨fun {W F F' H H' M M' v d} k x r => by
  cases r with
  | rv r => exact .rv (r.sub (x.sub k))
  | @own a vs ds h n m nf r =>
    refine .own (x.kp _ _ h n m) n ?_ ?_ (r.sub (x.sub k))
    · cases e2 : M' a with
      | none => rfl
      | some c =>
        rcases x.md a (by rw [e2]; exact fun z => by cases z) with u | u
        · exact absurd m u
        · rw [u] at h
          cases h
    · intro f
      rcases x.dn a f with z | z | z
      · exact nf z
      · rw [z] at h
        cases h
      · exact z m⟩
/-- what a list's cell holds, read as it stands -/
def drc : Addr → Option Ce → Dat
  | _, some (.lst xs) => .lst xs
  | a, _ => .cell a
def drf (M : Sto) : Dat → Dat
  | .cell a => drc a (M a)
  | d => d
/-- how a kind of reading is used: as it is, or looked up -/
structure Cv (R : Rel2) (S : Rel) (D : Sto → Dat → Dat) : Prop where
  run : ∀ {W : Wd} {F : Addr → Prop} {H : Hp} {M : Sto} {v : V} {d : Dat}, SoOk W F H M → R W F H M v d → S W F H v (D M d)
def dId : Sto → Dat → Dat := fun _ d => d
theorem cv_rv : Cv Rv2 Rv dId := ⟨fun _ r => r⟩
theorem cv_pk : Cv Pk2 Pk drf := ⟨fun {W F H M v d} ok r => by
  cases r with
  | own h n m nf r => exact .own h n r
  | rv r =>
    cases r with
    | cell a =>
      show Pk W F H (.ref a) (drc a (M a))
      cases e : M a with
      | none => exact .rv (.cell a)
      | some c =>
        cases c with
        | lst xs =>
          obtain ⟨_, np, vs, h, r⟩ := ok.at_ a _ e
          exact .own h np.np r
        | obj k ds => exact .rv (.cell a)
        | dK kvs => exact .rv (.cell a)
        | xd _ _ => exact .rv (.cell a)
    | non => exact .rv .non
    | bl b => exact .rv (.bl b)
    | int i => exact .rv (.int i)
    | str x => exact .rv (.str x)
    | pool h => exact .rv (.pool h)
    | lst f h r => exact .rv (.lst f h r)
    | tup h r => exact .rv (.tup h r)
    | obj f h r n => exact .rv (.obj f h r n)
    | dK f h r => exact .rv (.dK f h r)⟩
structure BEg (R : Rel2) (W : Wd) (H0 : Hp) (E : XS) (te : TE) (be : BEx) : Prop where
  run : ∀ (σ : L2.St) (env : List Sl) (F : Addr → Prop) (H : Hp) (M : Sto) (Q : VK) (P : Dat → Sto → Prop) (X : XD), Cfg W H0 E F H M σ env X → be env M X P → (∀ d F' H' v M', P d M' → Ex2 W F H M F' H' M' → R W F' H' M' v d → Q v H') → te σ H Q
abbrev BExp : Wd → Hp → XS → TE → BEx → Prop := BEg Rv2
structure BFrs (W : Wd) (H0 : Hp) (E : XS) (te : TE) (be : BFr) : Prop where
  run : ∀ (σ : L2.St) (env : List Sl) (F : Addr → Prop) (H : Hp) (M : Sto) (Q : VK) (P : List Dat → Sto → Prop) (X : XD), Cfg W H0 E F H M σ env X → be env M X P →
    (∀ ds F' H' a vs M', P ds M' → Ex2 W F H M F' H' M' → H a = none → ¬ F' a → M' a = none → H' a = some (.lst vs) → RvAll W F' H' vs ds → Q (.ref a) H') → te σ H Q
structure BTst (W : Wd) (H0 : Hp) (E : XS) (tt : TT) (bt : BTs) : Prop where
  run : ∀ (σ : L2.St) (env : List Sl) (F : Addr → Prop) (H : Hp) (M : Sto) (Q : Bool → Hp → Prop) (P : Bool → Sto → Prop) (X : XD), Cfg W H0 E F H M σ env X → bt env M X P → (∀ b F' H' M', P b M' → Ex2 W F H M F' H' M' → Q b H') → tt σ H Q
structure BArg (W : Wd) (H0 : Hp) (E : XS) (n : Nat) (ta : TA) (ba : BFr) : Prop where
  run : ∀ (σ : L2.St) (env : List Sl) (F : Addr → Prop) (H : Hp) (M : Sto) (Q : List V → Hp → Prop) (P : List Dat → Sto → Prop) (X : XD), Cfg W H0 E F H M σ env X → ba env M X P →
    (∀ ds F' H' vs M', P ds M' → Ex2 W F H M F' H' M' → RvAll W F' H' vs ds → ds.length = n → Q vs H') → ta σ H Q
structure BIter (W : Wd) (H0 : Hp) (E : XS) (wi : TI) (bi : BFr) : Prop where
  run : ∀ (σ : L2.St) (env : List Sl) (F : Addr → Prop) (H : Hp) (M : Sto) (R : It → Hp → Prop) (P : List Dat → Sto → Prop) (X : XD), Cfg W H0 E F H M σ env X → bi env M X P →
    (∀ ds F' H' J M', P ds M' → Ex2 W F H M F' H' M' → ItOk W J F' H' ds → R J H') → wi σ H R
def upE (ae : AEx) : BEx := fun env M _ P => ae env fun d => P d M
def upF (ae : AFr) : BFr := fun env M _ P => ae env fun d => P d M
def upT (at_ : ATs) : BTs := fun env M _ P => at_ env fun b => P b M
section
variable {W : Wd} {H0 : Hp} {E : XS} {te ta tb tc : TE} {ae : AEx} {be ea eb ec : BEx} {tt t u : TT} {bt bu : BTs}
theorem b_up (h : ∀ H0, AExp W H0 te ae) : BExp W H0 E te (upE ae) := ⟨fun σ env F H M Q P X c q k => (h _).run σ env F H Q _ c.st.ok c.m q fun d F' H' v p x r => k d F' H' v M p (x.ex2 c.st) r⟩
theorem b_upF {af : AFr} (h : ∀ H0, AFrs W H0 te af) : BFrs W H0 E te (upF af) := ⟨fun σ env F H M Q P X c q k => (h _).run σ env F H Q _ c.st.ok c.m q fun ds F' H' a vs p x n nf ha r => k ds F' H' a vs M p (x.ex2 c.st) n nf (c.st.new n) ha r⟩
theorem b_upT {at_ : ATs} (h : ∀ H0, ATst W H0 tt at_) : BTst W H0 E tt (upT at_) := ⟨fun σ env F H M Q P X c q k => (h _).run σ env F H Q _ c.st.ok c.m q fun b F' H' p x => k b F' H' M p (x.ex2 c.st)⟩
theorem b_upA {n : Nat} {t : TA} {aa : AFr} (h : ∀ H0, AArg W H0 n t aa) : BArg W H0 E n t (upF aa) := ⟨fun σ env F H M Q P X c q k => (h _).run σ env F H Q _ c.st.ok c.m q fun ds F' H' vs p x r l => k ds F' H' vs M p (x.ex2 c.st) r l⟩
theorem b_upI {wi : TI} {ai : AFr} (h : ∀ H0, AIter W H0 wi ai) : BIter W H0 E wi (upF ai) := ⟨fun σ env F H M R P X c q k => (h _).run σ env F H R _ c.st.ok c.m q fun ds F' H' J p x r => k ds F' H' J M p (x.ex2 c.st) r⟩
/-- a value that is only looked at -/
theorem b_pk (h : BExp W H0 E te be) : BEg Pk2 W H0 E te be := ⟨fun σ env F H M Q P X c q k => h.run σ env F H M Q P X c q fun d F' H' v M' p x r => k d F' H' v M' p x (.rv r)⟩
theorem npc_new {F : Addr → Prop} {H : Hp} (ok : Okk W F H) {a : Addr} (n : H a = none) : NPc W a := ok.pne n
/-- a new list, settled at once -/
def bFz (be : BFr) : BEx := fun env M X P => be env M X fun ds M' => P (.lst ds) M'
theorem b_fz {bf : BFr} (h : BFrs W H0 E te bf) : BExp W H0 E te (bFz bf) := ⟨fun σ env F H M Q P X c q k => h.run σ env F H M Q _ X c q fun ds F' H' a vs M' p x n nf m ha r => by
  have np := npc_new c.st.ok n
  have hn : H' a ≠ none := by rw [ha]; exact fun z => by cases z
  refine k (.lst ds) (fun b => F' b ∨ b = a) H' (.ref a) M' p ⟨fun b f => .inl (x.up b f), fun b f => ?_, x.kp, x.al, x.md, x.ok.fz hn m np⟩ (.lst (.inr rfl) ha (r.sub (sub_fz a)))
  rcases f with f | rfl
  · exact x.dn b f
  · exact .inr (.inl n)⟩
/-- a new list, from now on a cell -/
def bCel (be : BFr) : BEx := fun env M X P => be env M X fun ds M' => ∀ a, M' a = none → P (.cell a) (M'.put a (some (.lst ds)))
theorem b_cel {bf : BFr} (h : BFrs W H0 E te bf) : BExp W H0 E te (bCel bf) := ⟨fun σ env F H M Q P X c q k => h.run σ env F H M Q _ X c q fun ds F' H' a vs M' p x n nf m ha r => by
  have np := npc_new c.st.ok n
  refine k (.cell a) F' H' (.ref a) _ (p a m) ⟨x.up, x.dn, x.kp, x.al, fun b h => ?_, x.ok.new_cell nf m np ⟨vs, ha, r⟩⟩ (.cell a)
  by_cases z : b = a
  · rw [z]
    exact .inr n
  · rw [Sto.put_n z] at h
    exact x.md b h⟩
def b2 (D1 D2 : Sto → Dat → Dat) (f : Dat → Dat → (Dat → Prop) → Prop) (ea eb : BEx) : BEx := fun env M X P => ea env M X fun x M1 => eb env M1 X fun y M2 => f (D1 M2 x) (D2 M2 y) fun z => P z M2
theorem b_op {R1 R2 : Rel2} {S1 S2 : Rel} {D1 D2 : Sto → Dat → Dat} {r : L2.R2} {f : Dat → Dat → (Dat → Prop) → Prop} (pr : Pst2 R1) (c1 : Cv R1 S1 D1) (c2 : Cv R2 S2 D2) (hr : ROk W S1 S2 Rv r f) (ha : BEg R1 W H0 E ta ea) (hb : BEg R2 W H0 E tb eb) : BExp W H0 E (tOp r ta tb) (b2 D1 D2 f ea eb) :=
  ⟨fun σ env F H M Q P X c q k => ha.run σ env F H M _ _ X c q fun d F1 H1 v M1 p1 x1 r1 => hb.run σ env F1 H1 M1 _ _ X (c.step x1) p1 fun e F2 H2 u M2 p2 x2 r2 =>
    hr F2 H2 v u _ _ Q _ x2.ok.ok (c1.run x2.ok (pr.run x1.ok x2 r1)) (c2.run x2.ok r2) p2 fun z F3 H3 w p3 x3 r3 => k z F3 H3 w M2 p3 ((x1.trans x2).trans (x3.ex2 x2.ok)) r3⟩
def b2F (D1 D2 : Sto → Dat → Dat) (f : Dat → Dat → (List Dat → Prop) → Prop) (ea eb : BEx) : BFr := fun env M X P => ea env M X fun x M1 => eb env M1 X fun y M2 => f (D1 M2 x) (D2 M2 y) fun z => P z M2
def b1 (D : Sto → Dat → Dat) (f : Dat → (Dat → Prop) → Prop) (ea : BEx) : BEx := fun env M X P => ea env M X fun x M1 => f (D M1 x) fun z => P z M1
def b1F (D : Sto → Dat → Dat) (f : Dat → (List Dat → Prop) → Prop) (ea : BEx) : BFr := fun env M X P => ea env M X fun x M1 => f (D M1 x) fun z => P z M1
def bNil : BFr := fun _ M _ P => P [] M
def bCons (ea : BEx) (er : BFr) : BFr := fun env M X P => ea env M X fun x M1 => er env M1 X fun xs M2 => P (x :: xs) M2
theorem b_nil : BArg W H0 E 0 tNil bNil := ⟨fun _ _ F H M _ _ _ c h k => k [] F H [] M h (.refl c.st) .nil rfl⟩
theorem b_cons {n : Nat} {tr : TA} {er : BFr} (ha : BExp W H0 E ta ea) (hr : BArg W H0 E n tr er) : BArg W H0 E (n + 1) (tCons ta tr) (bCons ea er) :=
  ⟨fun σ env F H M Q P X c q k => ha.run σ env F H M _ _ X c q fun d F1 H1 v M1 p1 x1 r1 => hr.run σ env F1 H1 M1 _ _ X (c.step x1) p1 fun ds F2 H2 vs M2 p2 x2 r2 l2 =>
    k (d :: ds) F2 H2 (v :: vs) M2 p2 (x1.trans x2) (.cons (Rv.sub (x2.sub x1.ok) r1) r2) (congrArg (· + 1) l2)⟩
def bTup (ba : BFr) : BEx := fun env M X P => ba env M X fun ds M' => P (.tup ds) M'
def bTest (ea : BEx) : BTs := fun env M X P => ea env M X fun x M1 => bQ x fun b => P b M1
theorem b_tb (h : BExp W H0 E te be) : BTst W H0 E (tB te) (bTest be) := ⟨fun σ env F H M Q P X c q k => h.run σ env F H M _ _ X c q fun d F1 H1 v M1 p1 x1 r1 => by
  cases r1 <;> first | exact (show False from p1).elim | exact ⟨_, rfl, k _ F1 H1 M1 p1 x1⟩⟩
def bNot (a : BTs) : BTs := fun env M X P => a env M X fun b M1 => P (!b) M1
theorem b_not (h : BTst W H0 E t bt) : BTst W H0 E (tNot t) (bNot bt) := ⟨fun σ env F H M Q P X c q k => h.run σ env F H M _ _ X c q fun b F1 H1 M1 p1 x1 => k _ F1 H1 M1 p1 x1⟩
def bAnd (a c : BTs) : BTs := fun env M X P => a env M X fun b M1 => two b (c env M1 X P) (P false M1)
def bOr (a c : BTs) : BTs := fun env M X P => a env M X fun b M1 => two b (P true M1) (c env M1 X P)
theorem b_or (h : BTst W H0 E t bt) (h2 : BTst W H0 E u bu) : BTst W H0 E (tOr t u) (bOr bt bu) := ⟨fun σ env F H M Q P X c q k => h.run σ env F H M _ _ X c q fun b F1 H1 M1 p1 x1 => by
  cases b with
  | true =>
    rw [if_pos rfl]
    exact k true F1 H1 M1 p1 x1
  | false =>
    rw [if_neg Bool.false_ne_true]
    exact h2.run σ env F1 H1 M1 _ _ X (c.step x1) p1 fun b F2 H2 M2 p2 x2 => k b F2 H2 M2 p2 (x1.trans x2)⟩
def bAndV (ea eb : BEx) : BEx := fun env M X P => ea env M X fun x M1 => bQ x fun b => two b (eb env M1 X P) (P (.bl false) M1)
def bOrV (ea eb : BEx) : BEx := fun env M X P => ea env M X fun x M1 => bQ x fun b => two b (P (.bl true) M1) (eb env M1 X P)
def bNotV (ea : BEx) : BEx := fun env M X P => ea env M X fun x M1 => bQ x fun b => P (.bl (!b)) M1
theorem b_andV (ha : BExp W H0 E ta ea) (hb : BExp W H0 E tb eb) : BExp W H0 E (tAndV ta tb) (bAndV ea eb) := ⟨fun σ env F H M Q P X c q k => ha.run σ env F H M _ _ X c q fun d F1 H1 v M1 p1 x1 r1 => by
  cases r1 with
  | bl b =>
    refine ⟨b, rfl, ?_⟩
    cases b with
    | true =>
      rw [if_pos rfl]
      exact hb.run σ env F1 H1 M1 _ _ X (c.step x1) p1 fun e F2 H2 w M2 p2 x2 r2 => k e F2 H2 w M2 p2 (x1.trans x2) r2
    | false =>
      rw [if_neg Bool.false_ne_true]
      exact k _ F1 H1 _ M1 p1 x1 (.bl false)
  | _ => exact (show False from p1).elim⟩
def bIf (c : BTs) (ea eb : BEx) : BEx := fun env M X P => c env M X fun b M1 => two b (ea env M1 X P) (eb env M1 X P)
end
def bCall (asp : ASp) (ba : BFr) : BEx := fun env M X P => ba env M X fun ds M' => asp ds fun d => P d M'
def bCallF (asp : ASpF) (ba : BFr) : BFr := fun env M X P => ba env M X fun ds M' => asp ds fun d => P d M'
section
variable {K : PySem.W.Frag} {ca : Nat → Addr} {po : Option (Addr × Addr)} {H0 : Hp} {E : XS}
theorem b_call {n : Nat} {E' : XK} {t : TA} {ba : BFr} {asp : ASp} (h : BArg ⟨K, ca, po⟩ H0 E n t ba) : BExp ⟨K, ca, po⟩ H0 E (tCall (toSp K ca asp) [] E' t) (bCall asp ba) :=
  ⟨fun σ env F H M Q P X c q k => h.run σ env F H M _ _ X c q fun ds F1 H1 vs M1 p1 x1 r1 _ => by
    rw [List.append_nil]
    exact ⟨po, F1, ds, _, x1.ok.ok, r1, p1, fun d F' H' v p x r => k d F' H' v M1 p (x1.trans (x.ex2 x1.ok)) r⟩⟩
end
def X0 : XD := fun _ _ _ => False
theorem XOk.zero {W : Wd} {F : Addr → Prop} {H : Hp} {M : Sto} {E : XK} : XOk W F H M E X0 := fun _ _ _ _ _ _ _ _ _ h => h.elim
theorem Cfg.zero {W : Wd} {H0 : Hp} {E : XS} {F : Addr → Prop} {H : Hp} {M : Sto} {σ : L2.St} {env : List Sl} {X : XD} (c : Cfg W H0 E F H M σ env X) : Cfg W H0 E F H M σ env X0 := ⟨c.st, c.m, .zero⟩
def lcB (el : Dat → Sto → (Option Dat → Sto → Prop) → Prop) (P : List Dat → Sto → Prop) : List Dat → List Dat → Sto → Prop
  | [], acc, M => P acc M
  | d :: ds, acc, M => el d M fun o M' => match o with
    | some y => lcB el P ds (acc ++ [y]) M'
    | none => lcB el P ds acc M'
def elB (ag : ATg) (bt : BTs) (eb : BEx) (env : List Sl) : Dat → Sto → (Option Dat → Sto → Prop) → Prop := fun d M P => ag d env fun env2 => bt env2 M X0 fun b M1 => two b (eb env2 M1 X0 fun y M2 => P (some y) M2) (P none M1)
def bLc (bi : BFr) (ag : ATg) (bt : BTs) (eb : BEx) (vs : List Nat) : BFr := fun env M X P => bi env M X fun ds M1 => ds.length ≤ 100000 ∧ lcB (elB ag bt eb (wipeA env vs)) P ds [] M1
def bYes : BTs := fun _ M _ P => P true M
structure BEnds where
  nx : List Sl → Sto → Prop
  rt : Dat → Sto → Prop
  bk : List Sl → Sto → Prop := fun _ _ => False
  ct : List Sl → Sto → Prop := fun _ _ => False
  ex : List Sl → XD := fun _ => X0
abbrev BSt := BEnds → List Sl → Sto → Prop
structure Bse2 (W : Wd) (F0 : Addr → Prop) (H0 : Hp) (M0 : Sto) (F1 : Addr → Prop) (H1 : Hp) (F : Addr → Prop) (H : Hp) (M : Sto) : Prop where
  ex : Ex2 W F0 H0 M0 F H M
  sb : Sub F1 H1 F H
structure EndsOk2 (W : Wd) (E : XS) (F0 : Addr → Prop) (H0 : Hp) (M0 : Sto) (F1 : Addr → Prop) (H1 : Hp) (De : Ends) (Da : BEnds) : Prop where
  nx : ∀ σ env F H M, Bse2 W F0 H0 M0 F1 H1 F H M → Mt2 W H0 F H M σ env → Da.nx env M → De.nx σ H
  rt : ∀ v d F H M, Bse2 W F0 H0 M0 F1 H1 F H M → Rv W F H v d → Da.rt d M → De.rt v H
  bk : ∀ σ env F H M, Bse2 W F0 H0 M0 F1 H1 F H M → Mt2 W H0 F H M σ env → Da.bk env M → De.bk σ H
  ct : ∀ σ env F H M, Bse2 W F0 H0 M0 F1 H1 F H M → Mt2 W H0 F H M σ env → Da.ct env M → De.ct σ H
  ex : ∀ σ env F H M, Bse2 W F0 H0 M0 F1 H1 F H M → Mt2 W H0 F H M σ env → XOk W F H M (E σ) (Da.ex env)
/-- where a statement begins -/
structure BCf (W : Wd) (F0 : Addr → Prop) (H0 : Hp) (M0 : Sto) (F1 : Addr → Prop) (H1 : Hp) (F : Addr → Prop) (H : Hp) (M : Sto) (σ : L2.St) (env : List Sl) : Prop where
  b : Bse2 W F0 H0 M0 F1 H1 F H M
  m : Mt2 W H0 F H M σ env
structure BStm (W : Wd) (E : XS) (ts : TS) (bs : BSt) : Prop where
  run : ∀ (F0 : Addr → Prop) (H0 : Hp) (M0 : Sto) (F1 : Addr → Prop) (H1 : Hp) (De : Ends) (Da : BEnds) (σ : L2.St) (env : List Sl) (F : Addr → Prop) (H : Hp) (M : Sto), BCf W F0 H0 M0 F1 H1 F H M σ env → EndsOk2 W E F0 H0 M0 F1 H1 De Da → bs Da env M → ts De σ H
section
variable {W : Wd} {E : XS} {F0 F1 F F' : Addr → Prop} {H0 H1 H H' : Hp} {M0 M M' : Sto} {σ : L2.St} {env : List Sl}
theorem BCf.cfg {De : Ends} {Da : BEnds} (c : BCf W F0 H0 M0 F1 H1 F H M σ env) (k : EndsOk2 W E F0 H0 M0 F1 H1 De Da) : Cfg W H0 E F H M σ env (Da.ex env) := ⟨c.b.ex.ok, c.m, k.ex σ env F H M c.b c.m⟩
theorem BCf.step (c : BCf W F0 H0 M0 F1 H1 F H M σ env) (x : Ex2 W F H M F' H' M') : BCf W F0 H0 M0 F1 H1 F' H' M' σ env := ⟨⟨c.b.ex.trans x, c.b.sb.trans (x.sub c.b.ex.ok)⟩, c.m.ex2 c.b.ex.ok x⟩
theorem EndsOk2.mono {De : Ends} {Da : BEnds} (s : Sub F1 H1 F H) (k : EndsOk2 W E F0 H0 M0 F1 H1 De Da) : EndsOk2 W E F0 H0 M0 F H De Da :=
  ⟨fun σ env F H M b => k.nx σ env F H M ⟨b.ex, s.trans b.sb⟩, fun v d F H M b => k.rt v d F H M ⟨b.ex, s.trans b.sb⟩, fun σ env F H M b => k.bk σ env F H M ⟨b.ex, s.trans b.sb⟩, fun σ env F H M b => k.ct σ env F H M ⟨b.ex, s.trans b.sb⟩, fun σ env F H M b => k.ex σ env F H M ⟨b.ex, s.trans b.sb⟩⟩
end
def zNext : BSt := fun D env M => D.nx env M
def zSeq (a b : BSt) : BSt := fun D env M => a { D with nx := b D } env M
def zCut (a b : BSt) : BSt := fun D env M => ∃ Mid : List Sl → Sto → Prop, a { D with nx := Mid } env M ∧ ∀ env' M', Mid env' M' → b D env' M'
def zIf (c : BTs) (a b : BSt) : BSt := fun D env M => c env M (D.ex env) fun t M1 => two t (a D env M1) (b D env M1)
def zAsg (ea : BEx) (g : ATg) : BSt := fun D env M => ea env M (D.ex env) fun d M1 => g d env fun env2 => D.nx env2 M1
def zSetO (i : Nat) (af : BFr) : BSt := fun D env M => af env M (D.ex env) fun ds M1 => D.nx (env.set i (.o ds)) M1
def zRet (ea : BEx) : BSt := fun D env M => ea env M (D.ex env) D.rt
def zRetN : BSt := fun D _ M => D.rt .non M
def zDrop (ea : BEx) : BSt := fun D env M => ea env M (D.ex env) fun _ M1 => D.nx env M1
def zPar (i j : Nat) (ba : BFr) : BSt := fun D env M => ba env M (D.ex env) fun ds M1 => match ds with
  | [x, y] => D.nx ((env.set i (.d x)).set j (.d y)) M1
  | _ => False
def zApp (i : Nat) (ea : BEx) : BSt := fun D env M => oQ2 (dAt env i) fun xs => xs.length < 100000 ∧ ea env M (D.ex env) fun d M1 => D.nx (env.set i (.o (xs ++ [d]))) M1
def zFz (i : Nat) (a : BSt) : BSt := fun D env M => oQ2 (dAt env i) fun xs => a D (env.set i (.d (.lst xs))) M
def zAug (i : Nat) (ea : BEx) (f : Dat → Dat → (Dat → Prop) → Prop) : BSt := fun D env M => dQ (dAt env i) fun x => ea env M (D.ex env) fun y M1 => f x y fun z => D.nx (env.set i (.d z)) M1
def forB (g : ATg) (b : BSt) (D : BEnds) : List Dat → List Sl → Sto → Prop
  | [], env, M => D.nx env M
  | d :: ds, env, M => g d env fun env2 => b { D with nx := forB g b D ds, ct := forB g b D ds, bk := D.nx } env2 M
def zFor (bi : BFr) (g : ATg) (b : BSt) : BSt := fun D env M => bi env M (D.ex env) fun ds M1 => forB g b D ds env M1
/-- what a list's cell holds -/
def cQ (o : Option Ce) (P : List Dat → Prop) : Prop := match o with
  | some (.lst xs) => P xs
  | _ => False
def ceQ : Dat → (Addr → Prop) → Prop
  | .cell a, P => P a
  | _, _ => False
def inQ : Dat → (Int → Prop) → Prop
  | .int j, P => P j
  | _, _ => False
/-- x.append(e), x a cell -/
def zAppC (eo ea : BEx) : BSt := fun D env M => eo env M (D.ex env) fun x M1 => ceQ x fun a => cQ (M1 a) fun _ => ea env M1 (D.ex env) fun d M2 => cQ (M2 a) fun ys => ys.length < 100000 ∧ D.nx env (M2.put a (some (.lst (ys ++ [d]))))
/-- x[i] = e, x a cell -/
def zPutC (ev eo ei : BEx) : BSt := fun D env M => ev env M (D.ex env) fun d M1 => eo env M1 (D.ex env) fun x M2 => ei env M2 (D.ex env) fun i M3 => ceQ x fun a => inQ i fun j => cQ (M3 a) fun ys => ∃ k, ixN ys.length j = some k ∧ D.nx env (M3.put a (some (.lst (ys.set k d))))
/-- x[i] = e, x a list of the def's own -/
def zPutO (s : Nat) (ev ei : BEx) : BSt := fun D env M => oQ2 (dAt env s) fun ys => ev env M (D.ex env) fun d M1 => ei env M1 (D.ex env) fun i M2 => inQ i fun j => ∃ k, ixN ys.length j = some k ∧ D.nx (env.set s (.o (ys.set k d))) M2
section
variable {W : Wd} {E : XS} {ts tu : TS} {bs bu : BSt}
theorem z_next : BStm W E tNext zNext := ⟨fun F0 H0 M0 F1 H1 De Da σ env F H M c k h => k.nx σ env F H M c.b c.m h⟩
theorem z_seq (h1 : BStm W E ts bs) (h2 : BStm W E tu bu) : BStm W E (tSeq ts tu) (zSeq bs bu) := ⟨fun F0 H0 M0 F1 H1 De Da σ env F H M c k h =>
  h1.run F0 H0 M0 F1 H1 { De with nx := tu De } { Da with nx := bu Da } σ env F H M c ⟨fun σ env F H M b m h => h2.run F0 H0 M0 F1 H1 De Da σ env F H M ⟨b, m⟩ k h, k.rt, k.bk, k.ct, k.ex⟩ h⟩
theorem z_cut (h1 : BStm W E ts bs) (h2 : BStm W E tu bu) : BStm W E (C8.tCut ts tu) (zCut bs bu) := ⟨fun F0 H0 M0 F1 H1 De Da σ env F H M c k ⟨Mid, h, q⟩ =>
  ⟨fun σ' H' => ∃ env' F' M', BCf W F0 H0 M0 F1 H1 F' H' M' σ' env' ∧ Mid env' M', h1.run F0 H0 M0 F1 H1 _ { Da with nx := Mid } σ env F H M c ⟨fun σ env F H M b m h => ⟨env, F, M, ⟨b, m⟩, h⟩, k.rt, k.bk, k.ct, k.ex⟩ h,
    fun σ' H' ⟨env', F', M', c', hm⟩ => h2.run F0 H0 M0 F1 H1 De Da σ' env' F' H' M' c' k (q env' M' hm)⟩⟩
theorem z_if {t : TT} {cb : BTs} (ht : ∀ H0, BTst W H0 E t cb) (h1 : BStm W E ts bs) (h2 : BStm W E tu bu) : BStm W E (tIfS t ts tu) (zIf cb bs bu) := ⟨fun F0 H0 M0 F1 H1 De Da σ env F H M c k h =>
  (ht H0).run σ env F H M _ _ _ (c.cfg k) h fun t F' H' M' p x => by
    cases t with
    | true =>
      rw [if_pos rfl]
      exact h1.run F0 H0 M0 F1 H1 De Da σ env F' H' M' (c.step x) k p
    | false =>
      rw [if_neg Bool.false_ne_true]
      exact h2.run F0 H0 M0 F1 H1 De Da σ env F' H' M' (c.step x) k p⟩
theorem z_asg {te : TE} {ea : BEx} {g : TG} {ag : ATg} {vs : List Nat} (he : ∀ H0, BExp W H0 E te ea) (hg : ∀ H0, ATgt W H0 vs g ag) : BStm W E (tAsg te g) (zAsg ea ag) := ⟨fun F0 H0 M0 F1 H1 De Da σ env F H M c k h =>
  (he H0).run σ env F H M _ _ _ (c.cfg k) h fun d F' H' v M' p x r => (hg _).run v d σ env F' H' _ _ x.ok.ok (c.step x).m r p fun env' σ' p' m' _ => k.nx σ' env' F' H' M' (c.step x).b m' p'⟩
theorem z_set {te : TE} {ea : BEx} {i : Nat} (he : ∀ H0, BExp W H0 E te ea) : BStm W E (tAsg te (gName i)) (zAsg ea (gA i)) := z_asg (vs := [i]) he fun _ => g_name List.mem_cons_self
theorem z_ret {te : TE} {ea : BEx} (he : ∀ H0, BExp W H0 E te ea) : BStm W E (tRet te) (zRet ea) := ⟨fun F0 H0 M0 F1 H1 De Da σ env F H M c k h =>
  (he H0).run σ env F H M _ _ _ (c.cfg k) h fun d F' H' v M' p x r => k.rt v d F' H' M' (c.step x).b r p⟩
theorem z_drop {te : TE} {ea : BEx} (he : ∀ H0, BExp W H0 E te ea) : BStm W E (tDrop te) (zDrop ea) := ⟨fun F0 H0 M0 F1 H1 De Da σ env F H M c k h =>
  (he H0).run σ env F H M _ _ _ (c.cfg k) h fun d F' H' v M' p x r => k.nx σ env F' H' M' (c.step x).b (c.step x).m p⟩
theorem z_setO {te : TE} {af : BFr} {i : Nat} (he : ∀ H0, BFrs W H0 E te af) : BStm W E (tAsg te (gName i)) (zSetO i af) := ⟨fun F0 H0 M0 F1 H1 De Da σ env F H M c k h =>
  (he H0).run σ env F H M _ _ _ (c.cfg k) h fun ds F' H' a vs M' p x n nf m hA r => by
    refine k.nx _ _ F' H' M' (c.step x).b ((c.step x).m.setO i nf (mask_none.mpr ⟨m, c.b.ex.there n⟩) hA r (c.b.ex.ok.ok.pne n) fun j xs hj e z => ?_) p
    obtain ⟨ov, e1, b', ws, e2, _, _, hb, _⟩ := c.m.at_ j _ e
    rw [z] at e1
    cases e1
    cases e2
    rw [n] at hb
    cases hb⟩
/-- a list of the def's own is changed -/
theorem z_own {F0 F1 F : Addr → Prop} {H0 H1 H : Hp} {M0 M : Sto} {σ : L2.St} {env : List Sl} (c : BCf W F0 H0 M0 F1 H1 F H M σ env) {i : Nat} {xs ys : List Dat} {a : Addr} {ws : List V} (e : env[i]? = some (.o xs)) (es : σ[i]? = some (some (.ref a)))
    (nf : ¬ F a) (m0 : M a = none) (n0 : H0 a = none) (np : NPc W a) (r : RvAll W F H ws ys) : BCf W F0 H0 M0 F1 H1 F (upd H a (.lst ws)) M σ (env.set i (.o ys)) := by
  have sb : Sub F H F (upd H a (.lst ws)) := fun c f => ⟨f, upd_ne (fun z => nf (by rw [← z]; exact f))⟩
  have m := c.m
  refine ⟨⟨⟨c.b.ex.up, c.b.ex.dn, fun b o hc npc hm => ?_, fun b h => ?_, c.b.ex.md, c.b.ex.ok.upd_own nf m0 np⟩, c.b.sb.trans sb⟩, ?_⟩
  · rw [upd_ne (ne_of_none hc n0)]
    exact c.b.ex.kp b o hc npc hm
  · by_cases z : b = a
    · rw [z, upd_same]
      exact fun z => by cases z
    · rw [upd_ne z]
      exact c.b.ex.al b h
  · have hl : i < env.length := (List.getElem?_eq_some_iff.mp e).1
    refine ⟨by rw [List.length_set, m.ln], fun j s ej => ?_, fun j k us vs c e1 e2 e3 e4 => ?_⟩
    · by_cases h : j = i
      · subst h
        rw [List.getElem?_set_self hl] at ej
        cases ej
        exact ⟨_, es, a, ws, rfl, nf, mask_none.mpr ⟨m0, n0⟩, upd_same, r.sub sb, np⟩
      · rw [List.getElem?_set_ne (Ne.symm h)] at ej
        obtain ⟨ov, eo, so⟩ := m.at_ j s ej
        refine ⟨ov, eo, ?_⟩
        cases s with
        | u => trivial
        | d x =>
          obtain ⟨v, ev, rv⟩ := so
          exact ⟨v, ev, rv.sub sb⟩
        | o us =>
          obtain ⟨c, vs, ec, nfc, n0c, hc, rc, npc⟩ := so
          subst ec
          have hca : c ≠ a := fun z => h (m.own j i us xs c ej e eo (by rw [z]; exact es))
          exact ⟨c, vs, rfl, nfc, n0c, by rw [upd_ne hca]; exact hc, rc.sub sb, npc⟩
    · have old : ∀ {j : Nat} {us : List Dat}, (env.set i (.o ys))[j]? = some (.o us) → ∃ us', env[j]? = some (.o us') := fun {j us} ej => by
        by_cases h : j = i
        · subst h
          exact ⟨_, e⟩
        · rw [List.getElem?_set_ne (Ne.symm h)] at ej
          exact ⟨_, ej⟩
      obtain ⟨_, e1⟩ := old e1
      obtain ⟨_, e2⟩ := old e2
      exact m.own j k _ _ c e1 e2 e3 e4
theorem z_app {te : TE} {ea : BEx} {i : Nat} (he : ∀ H0, BExp W H0 E te ea) : BStm W E (tDrop (tBM W.K "list" rAppend (tVar i) (tCons te tNil))) (zApp i ea) := ⟨fun F0 H0 M0 F1 H1 De Da σ env F H M c k h => by
  obtain ⟨xs, a, vs, ⟨hl, h⟩, e, es, nf, n0, hA, r, np⟩ := own_at c.m h
  obtain ⟨m0, n0⟩ := mask_none.mp n0
  refine ⟨_, es, .inl ⟨rfl, vs, SqL.of hA⟩, ?_⟩
  refine (he H0).run σ env F H M _ _ _ (c.cfg k) h fun d F' H' v M' p x rv => ?_
  obtain ⟨nf', hA', m'⟩ := x.own nf hA m0 np
  have r' := r.sub (x.sub c.b.ex.ok)
  have c2 := z_own (c.step x) e es nf' m' n0 np (r'.append (.cons (show Rv W F' H' v d from rv) .nil))
  exact ⟨a, vs, v, rfl, rfl, hA', len_size (by rw [r.length]; omega), k.nx _ _ _ _ M' c2.b c2.m p⟩⟩
theorem z_fz {i : Nat} (h1 : BStm W E ts bs) : BStm W E ts (zFz i bs) := ⟨fun F0 H0 M0 F1 H1 De Da σ env F H M c k h => by
  obtain ⟨xs, a, vs, h, e, es, nf, n0, hA, r, np⟩ := own_at c.m h
  obtain ⟨m0, n0⟩ := mask_none.mp n0
  have m := c.m
  have hn : H a ≠ none := by rw [hA]; exact fun z => by cases z
  have sb : Sub F H (fun c => F c ∨ c = a) H := sub_fz a
  refine h1.run F0 H0 M0 F1 H1 De Da σ (env.set i (.d (.lst xs))) (fun c => F c ∨ c = a) H M ⟨⟨⟨fun b f => .inl (c.b.ex.up b f), fun b f => ?_, c.b.ex.kp, c.b.ex.al, c.b.ex.md, c.b.ex.ok.fz hn m0 np⟩, c.b.sb.trans sb⟩, ?_⟩ k h
  · rcases f with f | rfl
    · exact c.b.ex.dn b f
    · exact .inr (.inl n0)
  have hl : i < env.length := (List.getElem?_eq_some_iff.mp e).1
  refine ⟨by rw [List.length_set, m.ln], fun j s ej => ?_, fun j l us ws c e1 e2 e3 e4 => ?_⟩
  · by_cases h : j = i
    · subst h
      rw [List.getElem?_set_self hl] at ej
      cases ej
      exact ⟨_, es, _, rfl, .lst (.inr rfl) hA (r.sub sb)⟩
    · rw [List.getElem?_set_ne (Ne.symm h)] at ej
      obtain ⟨ov, eo, so⟩ := m.at_ j s ej
      refine ⟨ov, eo, ?_⟩
      cases s with
      | u => trivial
      | d x =>
        obtain ⟨v, ev, rv⟩ := so
        exact ⟨v, ev, rv.sub sb⟩
      | o us =>
        obtain ⟨c, vs, ec, nfc, n0c, hc, rc, npc⟩ := so
        subst ec
        exact ⟨c, vs, rfl, fun f => by
          rcases f with f | f
          · exact nfc f
          · exact h (m.own j i us xs c ej e eo (by rw [f]; exact es)), n0c, hc, rc.sub sb, npc⟩
  · have ne : ∀ {j : Nat} {us : List Dat}, (env.set i (.d (.lst xs)))[j]? = some (.o us) → j ≠ i := fun {j us} ej z => by
      subst z
      rw [List.getElem?_set_self hl] at ej
      cases ej
    have a1 := ne e1
    have a2 := ne e2
    rw [List.getElem?_set_ne (Ne.symm a1)] at e1
    rw [List.getElem?_set_ne (Ne.symm a2)] at e2
    exact m.own j l us ws c e1 e2 e3 e4⟩
theorem z_for {wi : TI} {bi : BFr} {g : TG} {ag : ATg} {vs : List Nat} (hi : ∀ H0, BIter W H0 E wi bi) (hg : ∀ H0, ATgt W H0 vs g ag) (hb : BStm W E ts bs) : BStm W E (tFor wi g ts) (zFor bi ag bs) := ⟨fun F0 H0 M0 F1 H1 De Da σ env F H M c k h =>
  (hi H0).run σ env F H M _ _ _ (c.cfg k) h fun ds Fa Ha J Ma p1 x1 itk => by
  have c1 := c.step x1
  refine ⟨fun i n σ' H' => n + i = ds.length ∧ ∃ env' F' M', BCf W F0 H0 M0 F1 H1 F' H' M' σ' env' ∧ Sub Fa Ha F' H' ∧ forB ag bs Da (ds.drop i) env' M', ⟨ds.length, rfl, env, Fa, Ma, c1, Sub.refl Fa Ha, p1⟩, ?_⟩
  rintro i n σ2 H2 ⟨hn, env2, F2, M2, c2, s2, p2⟩
  by_cases hlt : i < ds.length
  · have hd : ds[i]? = some ds[i] := List.getElem?_eq_getElem hlt
    obtain ⟨go, yl⟩ := itk.it F2 H2 c2.b.ex.ok.ok s2 i _ hd
    rw [List.drop_eq_getElem_cons hlt] at p2
    refine .inr ⟨go, fun σ' H' => ∃ env' F' M', BCf W F0 H0 M0 F1 H1 F' H' M' σ' env' ∧ Sub Fa Ha F' H' ∧ forB ag bs Da (ds.drop (i + 1)) env' M',
      fun σ' H' ⟨env', F', M', rest⟩ => ⟨n - 1, by omega, by omega, env', F', M', rest⟩, fun x H3 y => ?_⟩
    obtain ⟨F3, x3, rx⟩ := yl x H3 y
    have x3 := x3.ex2 c2.b.ex.ok
    have c3 := c2.step x3
    have s3 := s2.trans (x3.sub c2.b.ex.ok)
    refine (hg _).run x _ σ2 env2 F3 H3 _ _ x3.ok.ok c3.m rx p2 fun env4 σ4 p4 m4 _ => ?_
    exact hb.run F0 H0 M0 F3 H3 _ { Da with nx := forB ag bs Da (ds.drop (i + 1)), ct := forB ag bs Da (ds.drop (i + 1)), bk := Da.nx } σ4 env4 F3 H3 M2 ⟨⟨c3.b.ex, Sub.refl _ _⟩, m4⟩
      ⟨fun σ env F H M b m h => ⟨env, F, M, ⟨⟨b.ex, c3.b.sb.trans b.sb⟩, m⟩, s3.trans b.sb, h⟩, fun v d F H M b => k.rt v d F H M ⟨b.ex, c3.b.sb.trans b.sb⟩, fun σ env F H M b => k.nx σ env F H M ⟨b.ex, c3.b.sb.trans b.sb⟩,
        fun σ env F H M b m h => ⟨env, F, M, ⟨⟨b.ex, c3.b.sb.trans b.sb⟩, m⟩, s3.trans b.sb, h⟩, fun σ env F H M b => k.ex σ env F H M ⟨b.ex, c3.b.sb.trans b.sb⟩⟩ p4
  · have e : i = ds.length := by omega
    subst e
    rw [List.drop_length] at p2
    exact .inl ⟨itk.done F2 H2 c2.b.ex.ok.ok s2, k.nx σ2 env2 F2 H2 M2 c2.b c2.m p2⟩⟩
theorem cQ_at {o : Option Ce} {P : List Dat → Prop} (h : cQ o P) : ∃ xs, o = some (.lst xs) ∧ P xs := by
  cases o with
  | none => exact h.elim
  | some c =>
    cases c with
    | lst xs => exact ⟨xs, rfl, h⟩
    | obj _ _ => exact h.elim
    | dK _ => exact h.elim
    | xd _ _ => exact h.elim
theorem rv_cell {F : Addr → Prop} {H : Hp} {v : V} {a : Addr} (r : Rv W F H v (.cell a)) : v = .ref a := by
  cases r
  rfl
theorem z_appC {to te : TE} {eo ea : BEx} (ho : ∀ H0, BExp W H0 E to eo) (he : ∀ H0, BExp W H0 E te ea) : BStm W E (tDrop (tBM W.K "list" rAppend to (tCons te tNil))) (zAppC eo ea) := ⟨fun F0 H0 M0 F1 H1 De Da σ env F H M c k h => by
  refine (ho H0).run σ env F H M _ _ _ (c.cfg k) h fun d Fa Ha v Ma p x rv => ?_
  cases d with
  | cell a =>
    have e := rv_cell rv
    subst e
    obtain ⟨xs, hM, p⟩ := cQ_at p
    obtain ⟨nf, np, vs, hA, r⟩ := x.ok.at_ a _ hM
    refine ⟨.inl ⟨rfl, vs, SqL.of hA⟩, ?_⟩
    have c1 := c.step x
    refine (he H0).run σ env Fa Ha Ma _ _ _ (c1.cfg k) p fun d F' H' u M' p2 x2 ru => ?_
    obtain ⟨ys, hM2, hl, p2⟩ := cQ_at p2
    obtain ⟨nf2, np2, ws, hA2, r2⟩ := x2.ok.at_ a _ hM2
    refine ⟨a, ws, u, rfl, rfl, hA2, len_size (by rw [r2.length]; omega), ?_⟩
    have sb : Sub F' H' F' (upd H' a (.lst (ws ++ [u]))) := fun c f => ⟨f, upd_ne (fun z => nf2 (by rw [← z]; exact f))⟩
    have x3 := x2.ok.upd_cell (o := .lst (ws ++ [u])) (c1 := .lst (ys ++ [d])) hM2 ⟨_, upd_same, (r2.append (.cons (show Rv W F' H' u d from ru) .nil)).sub sb⟩
    have c3 := (c1.step x2).step x3
    exact k.nx _ _ _ _ _ c3.b c3.m p2
  | _ => exact (show False from p).elim⟩
theorem z_putC {te to ti : TE} {ev eo ei : BEx} (he : ∀ H0, BExp W H0 E te ev) (ho : ∀ H0, BExp W H0 E to eo) (hi : ∀ H0, BExp W H0 E ti ei) : BStm W E (tAsg te (gSub to ti rSetL)) (zPutC ev eo ei) := ⟨fun F0 H0 M0 F1 H1 De Da σ env F H M c k h => by
  refine (he H0).run σ env F H M _ _ _ (c.cfg k) h fun d Fa Ha v Ma p x rv => ?_
  have ca := c.step x
  refine (ho H0).run σ env Fa Ha Ma _ _ _ (ca.cfg k) p fun o Fb Hb w Mb p x2 ro => ?_
  have cb := ca.step x2
  refine (hi H0).run σ env Fb Hb Mb _ _ _ (cb.cfg k) p fun i Fc Hc u Mc p x3 ru => ?_
  have cc := cb.step x3
  cases o with
  | cell a =>
    cases i with
    | int j =>
      have e := rv_cell ro
      subst e
      obtain ⟨ys, hM, n, hn, p⟩ := cQ_at p
      obtain ⟨nf, np, vs, hA, r⟩ := x3.ok.at_ a _ hM
      cases (show Rv W Fc Hc u (.int j) from ru)
      have rv3 : Rv W Fc Hc v d := Rv.sub ((x2.trans x3).sub x.ok) rv
      refine ⟨a, vs, j, n, rfl, rfl, hA, by rw [r.length]; exact hn, ?_⟩
      have sb : Sub Fc Hc Fc (upd Hc a (.lst (vs.set n v))) := fun c f => ⟨f, upd_ne (fun z => nf (by rw [← z]; exact f))⟩
      have x4 := x3.ok.upd_cell (o := .lst (vs.set n v)) (c1 := .lst (ys.set n d)) hM ⟨_, upd_same, (r.set n rv3).sub sb⟩
      have c4 := cc.step x4
      exact k.nx _ _ _ _ _ c4.b c4.m p
    | _ => exact (show False from p).elim
  | _ => exact (show False from p).elim⟩
theorem z_putO {te ti : TE} {ev ei : BEx} {s : Nat} (he : ∀ H0, BExp W H0 E te ev) (hi : ∀ H0, BExp W H0 E ti ei) : BStm W E (tAsg te (gSub (tVar s) ti rSetL)) (zPutO s ev ei) := ⟨fun F0 H0 M0 F1 H1 De Da σ env F H M c k h => by
  obtain ⟨ys, a, vs, h, e1, e2, nf, n0, hA, r, np⟩ := own_at c.m h
  obtain ⟨m0, n0⟩ := mask_none.mp n0
  refine (he H0).run σ env F H M _ _ _ (c.cfg k) h fun d Fa Ha v Ma p x rv => ?_
  have ca := c.step x
  obtain ⟨nf1, hA1, m1⟩ := x.own nf hA m0 np
  refine ⟨_, e2, ?_⟩
  refine (hi H0).run σ env Fa Ha Ma _ _ _ (ca.cfg k) p fun i Fc Hc u Mc p x3 ru => ?_
  have cc := ca.step x3
  cases i with
  | int j =>
    obtain ⟨n, hn, p⟩ := (show ∃ n, ixN ys.length j = some n ∧ _ from p)
    cases (show Rv W Fc Hc u (.int j) from ru)
    obtain ⟨nf', hA', m'⟩ := x3.own nf1 hA1 m1 np
    have r' := r.sub ((x.trans x3).sub c.b.ex.ok)
    have rv3 : Rv W Fc Hc v d := Rv.sub (x3.sub x.ok) rv
    have c2 := z_own cc e1 e2 nf' m' n0 np (r'.set n rv3)
    exact ⟨a, vs, j, n, rfl, rfl, hA', by rw [r.length]; exact hn, k.nx _ _ _ _ _ c2.b c2.m p⟩
  | _ => exact (show False from p).elim⟩
end
abbrev BSp := List Dat → Sto → XD → (Dat → Sto → Prop) → Prop
def toSp2 (K : PySem.W.Frag) (ca : Nat → Addr) (bsp : BSp) : Sp := fun vs H Q E => ∃ (po : Option (Addr × Addr)) (F : Addr → Prop) (M : Sto) (ds : List Dat) (P : Dat → Sto → Prop) (X : XD), SoOk ⟨K, ca, po⟩ F H M ∧ RvAll ⟨K, ca, po⟩ F H vs ds ∧ bsp ds M X P ∧ XOk ⟨K, ca, po⟩ F H M E X ∧
  ∀ d F' H' M' v, P d M' → Ex2 ⟨K, ca, po⟩ F H M F' H' M' → Rv ⟨K, ca, po⟩ F' H' v d → Q v H'
/-- a call of a def that raises nothing here -/
def bCall2 (bsp : BSp) (ba : BFr) : BEx := fun env M X P => ba env M X fun ds M' => bsp ds M' X0 P
section
variable {K : PySem.W.Frag} {ca : Nat → Addr} {po : Option (Addr × Addr)} {H0 : Hp} {E : XS}
theorem b_call2 {n : Nat} {E' : XK} {t : TA} {ba : BFr} {bsp : BSp} (h : BArg ⟨K, ca, po⟩ H0 E n t ba) : BExp ⟨K, ca, po⟩ H0 E (tCall (toSp2 K ca bsp) [] E' t) (bCall2 bsp ba) :=
  ⟨fun σ env F H M Q P X c q k => h.run σ env F H M _ _ X c q fun ds F1 H1 vs M1 p1 x1 r1 _ => by
    rw [List.append_nil]
    exact ⟨po, F1, M1, ds, P, X0, x1.ok, r1, p1, .zero, fun d F' H' M' v p x r => k d F' H' v M' p (x1.trans x) r⟩⟩
end
theorem mt_anyB {W : Wd} {H0 H1 : Hp} {F : Addr → Prop} {H : Hp} {σ : L2.St} {env : List Sl} (no : ∀ (i : Nat) (xs : List Dat), env[i]? ≠ some (.o xs)) (m : Mt W H0 F H σ env) : Mt W H1 F H σ env :=
  ⟨m.ln, fun i s e => by
    obtain ⟨ov, e1, r⟩ := m.at_ i s e
    refine ⟨ov, e1, ?_⟩
    cases s with
    | u => trivial
    | d x => exact r
    | o xs => exact absurd e (no i xs), fun i j xs ys a e1 => absurd e1 (no i xs)⟩
theorem mt_start2 {W : Wd} {F : Addr → Prop} {H : Hp} {M : Sto} {N : List Str} {vs : List V} {ds : List Dat} (r : RvAll W F H vs ds) (hl : ds.length ≤ N.length) : Mt2 W H F H M (L2.start N vs) (ds.map Sl.d ++ List.replicate (N.length - ds.length) .u) :=
  mt_anyB (fun i xs e => by
    rcases List.mem_append.mp (List.mem_of_getElem? e) with h | h
    · obtain ⟨_, _, z⟩ := List.mem_map.mp h
      cases z
    · cases (List.mem_replicate.mp h).2) (mt_start r hl)
theorem sp_len2 {K : PySem.W.Frag} {ca : Nat → Addr} {bsp : BSp} {n : Nat} (hn : ∀ ds M X P, bsp ds M X P → ds.length = n) {vs : List V} {H : Hp} {Q : VK} {E : XK} (h : toSp2 K ca bsp vs H Q E) : vs.length = n := by
  obtain ⟨po, F, M, ds, P, X, ok, r, a, xo, k⟩ := h
  rw [r.length]
  exact hn ds M X P a
/-- a def over data and cells -/
theorem fn_run2 {K : PySem.W.Frag} {ca : Nat → Addr} {bsp : BSp} {N : List Str} {vs : List V} {H : Hp} {Q : VK} {E : XK} {ts : TS} {bs : BSt} (h : toSp2 K ca bsp vs H Q E) (hs : ∀ po, BStm ⟨K, ca, po⟩ (fun _ => E) ts bs) (hl : ∀ ds M X P, bsp ds M X P → ds.length ≤ N.length)
    (hb : ∀ ds M X P, bsp ds M X P → bs { nx := fun _ M => P .non M, rt := P, ex := fun _ => X } (ds.map Sl.d ++ List.replicate (N.length - ds.length) .u) M) : ts { nx := fun _ H' => Q .non H', rt := Q } (L2.start N vs) H := by
  obtain ⟨po, F, M, ds, P, X, ok, r, a, xo, k⟩ := h
  exact (hs po).run F H M F H _ { nx := fun _ M => P .non M, rt := P, ex := fun _ => X } _ _ F H M ⟨⟨.refl ok, Sub.refl F H⟩, mt_start2 r (hl ds M X P a)⟩
    ⟨fun σ env F' H' M' b m p => k .non F' H' M' .non p b.ex .non, fun v d F' H' M' b r p => k d F' H' M' v p b.ex r, fun _ _ _ _ _ _ _ p => p.elim, fun _ _ _ _ _ _ _ p => p.elim, fun _ _ _ _ _ b _ => xo.step b.ex⟩ (hb ds M X P a)
/-- a promise over data alone, kept by a def that has cells within -/
theorem fn_run1 {K : PySem.W.Frag} {ca : Nat → Addr} {asp : ASp} {N : List Str} {vs : List V} {H : Hp} {Q : VK} {E : XK} {ts : TS} {bs : BSt} (h : toSp K ca asp vs H Q E) (hs : ∀ po, BStm ⟨K, ca, po⟩ (fun _ => E) ts bs) (hl : ∀ ds P, asp ds P → ds.length ≤ N.length)
    (hb : ∀ ds P, asp ds P → bs { nx := fun _ _ => P .non, rt := fun d _ => P d } (ds.map Sl.d ++ List.replicate (N.length - ds.length) .u) (fun _ => none)) : ts { nx := fun _ H' => Q .non H', rt := Q } (L2.start N vs) H := by
  obtain ⟨po, F, ds, P, ok, r, a, k⟩ := h
  have st : SoOk ⟨K, ca, po⟩ F H (fun _ => none) := ⟨ok, fun _ _ e => by cases e⟩
  have down : ∀ {F' : Addr → Prop} {H' : Hp} {M' : Sto}, Ex2 ⟨K, ca, po⟩ F H (fun _ => none) F' H' M' → Ext ⟨K, ca, po⟩ F H F' H' := fun {F' H' M'} x => ⟨x.up, fun a f => by
    rcases x.dn a f with z | z | z
    · exact .inl z
    · exact .inr z
    · exact absurd rfl z, fun a o e n => x.kp a o e n rfl, x.ok.ok⟩
  exact (hs po).run F H _ F H _ { nx := fun _ _ => P .non, rt := fun d _ => P d } _ _ F H _ ⟨⟨.refl st, Sub.refl F H⟩, mt_start2 r (hl ds P a)⟩
    ⟨fun σ env F' H' M' b m p => k .non F' H' .non p (down b.ex) .non, fun v d F' H' M' b r p => k d F' H' v p (down b.ex) r, fun _ _ _ _ _ _ _ p => p.elim, fun _ _ _ _ _ _ _ p => p.elim, fun _ _ _ _ _ _ _ => .zero⟩ (hb ds P a)
def bFrz (be : BEx) : BEx := fun env M X P => be env M X fun x M1 => ceQ x fun a => cQ (M1 a) fun xs => P (.lst xs) (M1.put a none)
theorem drf_l {M : Sto} {xs : List Dat} : drf M (.lst xs) = .lst xs := rfl
theorem drf_t {M : Sto} {xs : List Dat} : drf M (.tup xs) = .tup xs := rfl
theorem drf_i {M : Sto} {i : Int} : drf M (.int i) = .int i := rfl
theorem drf_s {M : Sto} {i : Str} : drf M (.str i) = .str i := rfl
theorem drf_b {M : Sto} {i : Bool} : drf M (.bl i) = .bl i := rfl
theorem drf_n {M : Sto} : drf M .non = .non := rfl
theorem drf_o {M : Sto} {k : Nat} {ds : List Dat} : drf M (.obj k ds) = .obj k ds := rfl
theorem drf_c {M : Sto} {a : Addr} : drf M (.cell a) = drc a (M a) := rfl
theorem drc_l {a : Addr} {xs : List Dat} : drc a (some (.lst xs)) = .lst xs := rfl
theorem ceQ_c {a : Addr} {P : Addr → Prop} : ceQ (.cell a) P = P a := rfl
theorem inQ_i {j : Int} {P : Int → Prop} : inQ (.int j) P = P j := rfl
theorem cQ_l {xs : List Dat} {P : List Dat → Prop} : cQ (some (.lst xs)) P = P xs := rfl
theorem forB_suf {α : Type} {f : α → Dat} {g : ATg} {b : BSt} {D : BEnds} (W : List α → List Sl → Sto → Prop) (hs : ∀ x xs env M, W (x :: xs) env M → ∀ N : List Sl → Sto → Prop, (∀ env' M', W xs env' M' → N env' M') → g (f x) env fun env2 => b { D with nx := N, ct := N, bk := D.nx } env2 M)
    (hd : ∀ env M, W [] env M → D.nx env M) : ∀ xs env M, W xs env M → forB g b D (xs.map f) env M
  | [], env, M, h => hd env M h
  | x :: xs, env, M, h => hs x xs env M h (forB g b D (xs.map f)) fun env' M' w => forB_suf W hs hd xs env' M' w
theorem forB_ran {g : ATg} {b : BSt} {D : BEnds} {n : Nat} {lo : Int} {env : List Sl} {M : Sto} (W : Nat → List Sl → Sto → Prop) (h0 : W 0 env M)
    (hs : ∀ i env M, i < n → W i env M → ∀ N : List Sl → Sto → Prop, (∀ env' M', W (i + 1) env' M' → N env' M') → g (.int (lo + (i : Int))) env fun env2 => b { D with nx := N, ct := N, bk := D.nx } env2 M)
    (hd : ∀ env M, W n env M → D.nx env M) : forB g b D ((List.range n).map fun (i : Nat) => Dat.int (lo + (i : Int))) env M := by
  have gen : ∀ (m k : Nat) env M, k + m = n → W k env M → forB g b D ((List.range' k m).map fun (i : Nat) => Dat.int (lo + (i : Int))) env M := by
    intro m
    induction m with
    | zero =>
      intro k env M e w
      have e : k = n := by omega
      subst e
      exact hd env M w
    | succ m ih =>
      intro k env M e w
      exact hs k env M (by omega) w _ fun env' M' w' => ih (k + 1) env' M' (by omega) w'
  rw [List.range_eq_range']
  exact gen n 0 env M (by omega) h0
/-- what comes after a statement, by a name -/
theorem zseqG {a b : BSt} {D : BEnds} {env : List Sl} {M : Sto} (h : ∀ N : List Sl → Sto → Prop, N = b D → a { D with nx := N } env M) : zSeq a b D env M := h _ rfl
theorem Mt.setU {W : Wd} {H0 : Hp} {F : Addr → Prop} {H : Hp} {σ : L2.St} {env : List Sl} (m : Mt W H0 F H σ env) (i : Nat) : Mt W H0 F H (σ.set i none) (env.set i .u) := by
  have ne : ∀ {j : Nat} {xs : List Dat}, (env.set i .u)[j]? = some (.o xs) → j ≠ i := fun {j xs} e z => by
    subst z
    have hl : j < env.length := by
      have := (List.getElem?_eq_some_iff.mp e).1
      rwa [List.length_set] at this
    rw [List.getElem?_set_self hl] at e
    cases e
  refine ⟨by rw [List.length_set, List.length_set, m.ln], fun j s e => ?_, fun j k xs ys a e1 e2 e3 e4 => ?_⟩
  · by_cases h : j = i
    · subst h
      have hl : j < env.length := by
        have := (List.getElem?_eq_some_iff.mp e).1
        rwa [List.length_set] at this
      rw [List.getElem?_set_self hl] at e
      cases e
      exact ⟨none, List.getElem?_set_self (by rw [← m.ln]; exact hl), trivial⟩
    · rw [List.getElem?_set_ne (Ne.symm h)] at e ⊢
      exact m.at_ j s e
  · have n1 := ne e1
    have n2 := ne e2
    rw [List.getElem?_set_ne (Ne.symm n1)] at e1 e3
    rw [List.getElem?_set_ne (Ne.symm n2)] at e2 e4
    exact m.own j k xs ys a e1 e2 e3 e4
/-- a call that may raise -/
def bCallX (bsp : BSp) (ba : BFr) : BEx := fun env M X P => ba env M X fun ds M' => bsp ds M' X P
section
variable {K : PySem.W.Frag} {ca : Nat → Addr} {po : Option (Addr × Addr)} {H0 : Hp} {E : XS}
theorem b_callX {n : Nat} {t : TA} {ba : BFr} {bsp : BSp} (h : BArg ⟨K, ca, po⟩ H0 E n t ba) : BExp ⟨K, ca, po⟩ H0 E (tCallS (toSp2 K ca bsp) E t) (bCallX bsp ba) :=
  ⟨fun σ env F H M Q P X c q k => h.run σ env F H M _ _ X c q fun ds F1 H1 vs M1 p1 x1 r1 _ =>
    ⟨po, F1, M1, ds, P, X, x1.ok, r1, p1, (c.step x1).x, fun d F' H' M' v p x r => k d F' H' v M' p (x1.trans x) r⟩⟩
end
def zRaise (k : Nat) (ba : BFr) : BSt := fun D env M => ba env M (D.ex env) fun ds M1 => D.ex env k ds M1
section
variable {W : Wd} {E : XS}
/-- try: body; except .. as slot i: suite; ks the classes that are caught, all of one attribute -/
def zTryX (i : Nat) (ks : List Nat) (bs : Nat → Addr → Addr → BSt) (D : BEnds) (env : List Sl) : XD := fun k ds M =>
  k ∈ ks ∧ ∀ a dd, M a = none → M dd = none → bs k a dd { D with nx := fun e m => D.nx (e.set i .u) m, bk := fun e m => D.bk (e.set i .u) m, ct := fun e m => D.ct (e.set i .u) m } (env.set i (.d (.cell a))) (M.put dd (some (.xd k ds)))
def zTry (i : Nat) (ks : List Nat) (bb : BSt) (bs : Nat → Addr → Addr → BSt) : BSt := fun D env M => bb { D with ex := zTryX i ks bs D } env M
theorem z_try {i : Nat} {ks : List Nat} {cv : Value} {tb : WX → TS} {ts : Addr → Value → Option Addr → TS} {bb : BSt} {bs : Nat → Addr → Addr → BSt} {Wout : WX} (hks : ∀ k ∈ ks, (∃ f, xcN k = some f) ∧ PySem.W.exmOne W.K (.ref (W.ca k)) cv = some true)
    (hb : ∀ Wx : WX, BStm W (fun σ cls d H => Wx cls d σ H) (tb Wx) bb) (hs : ∀ k ∈ ks, ∀ a dd, BStm W E (ts a (.ref (W.ca k)) (some dd)) (bs k a dd)) : BStm W E (fun D σ H => tb (wAs W.K cv i ts Wout D) D σ H) (zTry i ks bb bs) := ⟨fun F0 H0 M0 F1 H1 De Da σ env F H M c k h => by
  refine (hb (wAs W.K cv i ts Wout De)).run F0 H0 M0 F1 H1 De { Da with ex := zTryX i ks bs Da } σ env F H M c ⟨k.nx, k.rt, k.bk, k.ct, fun σ env F H M b m kx ds d F' H' M' x xa nw hX => ?_⟩ h
  obtain ⟨hk, hX⟩ := hX
  obtain ⟨⟨f, hf⟩, he⟩ := hks kx hk
  unfold XAt at xa
  rw [hf] at xa
  obtain ⟨dd, v, y, rfl, hd, rfl, rv, nf, md, npd⟩ := xa
  refine ⟨true, he, fun _ a ha => ?_, fun z => by cases z⟩
  have x' : Ex2 W F H M F' H' (M'.put dd (some (.xd kx [y]))) := by
    refine ⟨x.up, x.dn, x.kp, x.al, fun b hb => ?_, x.ok.new_cell nf md npd ⟨f, v, y, hf, hd, rfl, rv⟩⟩
    by_cases z : b = dd
    · rw [z]
      exact .inr (nw dd rfl)
    · rw [Sto.put_n z] at hb
      exact x.md b hb
  exact (hs kx hk a dd).run F0 H0 M0 F1 H1 _ { Da with nx := fun e m => Da.nx (e.set i .u) m, bk := fun e m => Da.bk (e.set i .u) m, ct := fun e m => Da.ct (e.set i .u) m } (σ.set i (some (.ref a))) (env.set i (.d (.cell a))) F' H' _ ⟨⟨b.ex.trans x', b.sb.trans (x'.sub b.ex.ok)⟩, (m.ex2 b.ex.ok x').setD i (.cell a)⟩
    ⟨fun σ env F H M b m h => k.nx _ _ F H M b (m.setU i) h, k.rt, fun σ env F H M b m h => k.bk _ _ F H M b (m.setU i) h, fun σ env F H M b m h => k.ct _ _ F H M b (m.setU i) h, k.ex⟩ (hX a dd (x.ok.new ha) md)⟩
/-- e.f in the suite, e in slot i, the class kk's attribute -/
def xQ (o : Option Ce) (kk : Nat) (P : Dat → Prop) : Prop := match o with
  | some (.xd k [x]) => k = kk ∧ P x
  | _ => False
def isC : Dat → Addr → Prop
  | .cell b, a => b = a
  | _, _ => False
def bWhat (i : Nat) (a dd : Addr) (k kk : Nat) : BEx := fun env M _ P => k = kk ∧ dQ (dAt env i) fun x => isC x a ∧ xQ (M dd) kk fun y => P y M
theorem b_what {H0 : Hp} {i k kk : Nat} {a dd : Addr} {f : Str} (hf : xcN kk = some f) : BExp W H0 E (tXf a (.ref (W.ca k)) (some dd) (W.ca kk) f (tVar i)) (bWhat i a dd k kk) := ⟨fun σ env F H M Q P X c ⟨hk, h⟩ q => by
  subst hk
  cases e : dAt env i with
  | d x =>
    rw [e] at h
    obtain ⟨hx, h⟩ := h
    obtain ⟨_, e1, v, rfl, r⟩ := c.m.at_ i _ (dAt_get e (fun z => by cases z))
    cases x with
    | cell b =>
      have hx : b = a := hx
      subst hx
      have ev := rv_cell r
      subst ev
      refine ⟨_, e1, rfl, rfl, dd, ?_⟩
      cases hM : M dd with
      | none =>
        rw [hM] at h
        exact h.elim
      | some ce =>
        rw [hM] at h
        cases ce with
        | xd k' ds =>
          match ds, h with
          | [y], ⟨hk, p⟩ =>
            subst hk
            obtain ⟨_, _, f', v, z, hf', hA, ez, rz⟩ := c.st.at_ dd _ hM
            rw [hf] at hf'
            cases hf'
            cases ez
            exact ⟨_, v, rfl, hA, by simp [List.lookup], q y F H v M p (.refl c.st) rz⟩
          | [], h => exact h.elim
          | _ :: _ :: _, h => exact h.elim
        | _ => exact h.elim
    | _ => exact hx.elim
  | u =>
    rw [e] at h
    exact h.elim
  | o xs =>
    rw [e] at h
    exact h.elim⟩
end
/-- C(..) where __init__ may raise -/
def tMakeS (C : Addr) (sp : Sp) (E : L2.St → XK) (t : TA) : TE := fun σ H Q => t σ H fun vs H1 => ∀ x dx, H1 x = none → H1 dx = none → dx ≠ x → sp (.ref x :: vs) (upd (upd H1 dx (.own x)) x (.ins C dx [])) (fun v H2 => v = .non ∧ Q (.ref x) H2) (E σ)
/-- o.m(..) where m may raise -/
def tMethS (C : Addr) (m : Str) (sp : Sp) (E : L2.St → XK) (ta : TE) (t : TA) : TE := fun σ H Q => ta σ H fun x H1 => ∃ a dx fs, x = .ref a ∧ H1 a = some (.ins C dx fs) ∧ fs.lookup m = none ∧ t σ H1 fun vs H2 => sp (x :: vs) H2 Q (E σ)
section
variable {X : Cx} {CX : CXT} {k : Nat} {f C : Addr} {fd : FuncData} {ps : List Str} {sp : Sp} {E : L2.St → XK} {x m : Str} {p pos apos : Pos} {e o : Expr} {es : List Expr} {ta : TE} {t : TA}
theorem run_makeS {pins : List (Addr × Obj)} {σ : L2.St} {H : Hp} {s : Shared} {Q : VK} {us : List Value} {vs : List V} (M : Mk X.K C f) (F : FnOk X.prog X.w X.K X.mg X.base CX k f fd ps sp) (hr : Room (k + 1) X.A) (hb : Binds X.K fd ps []) (hx : PassesAt CX X σ (E σ)) (I : Inv X pins σ H s) (r : Vals vs us)
    (h : ∀ x dx, H x = none → H dx = none → dx ≠ x → sp (.ref x :: vs) (upd (upd H dx (.own x)) x (.ins C dx [])) (fun v H2 => v = .non ∧ Q (.ref x) H2) (E σ)) : wpAny (model X.prog X.w) X.A (call (.ref C) us) (EP X pins σ Q) X.xe s := by
  have hq := h (s.heap.objs.size + 1) s.heap.objs.size (I.hok.fresh (Nat.le_succ _)) (I.hok.fresh (Nat.le_refl _)) (Nat.ne_of_lt (Nat.lt_succ_self _)); have J := Inv.made (C := C) I
  have rr : Vals (V.ref (s.heap.objs.size + 1) :: vs) (Value.ref (s.heap.objs.size + 1) :: us) := .cons rfl r
  have hn : (Value.ref (s.heap.objs.size + 1) :: us).length = ps.length := by rw [← rr.length]; exact F.len _ _ _ _ hq
  have bb := hb _ (Value.ref (s.heap.objs.size + 1) :: us) J.kIn (by rw [List.append_nil]; exact hn)
  rw [List.append_nil] at bb
  refine wpAny_call (make_map (f := f) I.kIn M.makes M.init (beq_iff_eq.mp M.fn) (codeAny_mono (F.run _ X.stack _ _ ⟨Value.ref (s.heap.objs.size + 1) :: us, []⟩ (Value.ref (s.heap.objs.size + 1) :: us) _ _ (E σ) (hr.make C us []) (J.env0.make C us []) bb rr hq) fun out s2 hq2 => ?_))
  cases out with
  | error er => exact hx pins _ _ er s2 J hq2
  | ok fl =>
    cases fl with
    | ret u => obtain ⟨v, H3, J3, rv, ev, q3⟩ := J.after hq2; subst ev; exact ⟨rv, ⟨V.ref (s.heap.objs.size + 1), H3, J3, rfl, q3⟩⟩
    | next => exact hq2.elim
    | brk => exact hq2.elim
    | cont => exact hq2.elim
theorem pe_makeS (M : Mk X.K C f) (F : FnOk X.prog X.w X.K X.mg X.base CX k f fd ps sp) (hr : Room (k + 1) X.A) (hg : Gl X x) (hm : X.mg x = some (.ref C)) (hb : Binds X.K fd ps []) (hx : ∀ σ, PassesAt CX X σ (E σ)) (ha : PA X (e :: es) t) (hdb : (x == ("__debug__" : Str)) = false := by decide)
    (hst : starEach (e :: es) X.env = (false, eval e X.env) :: starEach es X.env := by rfl) (hpn : (backTo pos (starEach es X.env)).any (·.1) = false := by rfl) : PE X (.Call (.Name x p) (e :: es) [] pos) (tMakeS C sp E t) :=
  ⟨fun pins s σ H Q I h => wpAny_Call_Name_kw (ld_glob I hg hm (PySem.W.callWith_K (h₀ := X.base) I.ok.mod.kin M.kp (thn (ha.run pos pins s σ H _ I h) fun us s1 ⟨vs, H1, I1, r, q⟩ => ⟨I1.kIn, run_makeS M F hr hb (hx σ) I1 r q⟩) hst hpn) hdb)⟩
theorem pe_methS {pl : Sem Bool} (he : PE X o ta) (c : Cls X.K C) (hm : Meth X.K C m f) (F : FnOk X.prog X.w X.K X.mg X.base CX k f fd ps sp) (hr : Room k X.A) (hb : Binds X.K fd ps []) (hx : ∀ σ, PassesAt CX X σ (E σ)) (ha : PA X (e :: es) t) (hst : starEach (e :: es) X.env = (false, eval e X.env) :: starEach es X.env := by rfl) (hpn : (backTo pos (starEach es X.env)).any (·.1) = false := by rfl)
    (ht : eval (.Call (.Attribute o m apos) (e :: es) [] pos) X.env = (do let ov ← eval o X.env; standAt apos.atName; let (f, first) ← holding [ov] (getMethod ov m pl); callWith pos f first (backTo pos (starEach (e :: es) X.env)) (backToKw pos (keywordEach [] X.env))) := by rfl) :
    PE X (.Call (.Attribute o m apos) (e :: es) [] pos) (tMethS C m sp E ta t) := ⟨fun pins s σ H Q I h => PySem.W.methodCall_KW (pl := pl) (thn (he.run pins s σ H _ I h) fun u s1 ⟨x, H1, I1, rx, a, dx, fs, ex, ea, l, q⟩ => by
  subst ex
  obtain rfl : u = Value.ref a := rx
  exact getmeth_ok I1 ea c hm l (PySem.W.callWith_K (first := [.ref a]) (h₀ := X.base) I.ok.mod.kin hm.kp (thn (ha.run pos pins s1 σ H1 _ I1 q) fun us s2 ⟨vs, H2, I2, r, q2⟩ => ⟨I2.kIn, run_fnS (us := .ref a :: us) (vs := .ref a :: vs) F hr hb (hx σ) I2 (.cons rfl r) q2⟩) hst hpn)) ht⟩
end
/-- __init__ of an error: self.f = its one argument -/
def spXI (K : PySem.W.Frag) (C : Addr) (f : Str) : Sp := fun vs H Q _ => ∃ a v, vs = [.ref a, v] ∧ H a = some (exo a C none) ∧ ∀ dx, H dx = none → dx ≠ a → Q .non (upd (upd H dx (exd dx [(f, v)])) a (exo a C (some dx)))
def tRaiseO (C : Addr) (sp : Sp) (Wx : WX) (ta : TA) : TS := fun _ σ H => tMkO C sp [] ta σ H fun cls d H' => Wx cls d σ H'
theorem held_in {X : Cx} {D a dd : Addr} {oe : Obj} {pn pins : List (Addr × Obj)} {s : Shared} {σ : L2.St} {H : Hp} {fs : List (Str × V)} (I : Inv (X.suite a ((a, oe) :: pn)) pins σ H s) (hz : Zc (.ref D) (some dd) oe) (hf : ∃ vs, oe.data = .fields vs) (e : H dd = some (.xd fs)) : ∃ od, PySem.W.InstAt s.heap a oe D (some od) := by
  have g := (I.pin (a, oe) (List.mem_append.mpr (.inl List.mem_cons_self))).1
  obtain ⟨vs, hd⟩ := hf
  have hx : ObjOk X.prog X.w H s.heap dd (.xd fs) := I.hok dd _ e
  obtain ⟨mA, hns, hr⟩ := hx
  obtain ⟨od, ho, hl⟩ := lookIn_ns hns
  exact ⟨od, g, hz.1, by unfold PySem.W.notCls; rw [hd] <;> rfl, by rw [hz.2]; exact ho⟩
def rKX (K : PySem.W.Frag) (a : Addr) (cls : Value) (d : Option Addr) : List V → Hp → VK → Prop := fun xs H Q => ∃ (D dd : Addr) (c : V) (u : Value) (b : Bool) (fs : List (Str × V)), cls = .ref D ∧ d = some dd ∧ ExcC K D ∧ H dd = some (.xd fs) ∧ xs = [.ref a, c] ∧ ClsV c u ∧ PySem.W.kitOne K (.ref D) u = some b ∧ Q (.bl b) H
def rKXT (K : PySem.W.Frag) (a : Addr) (cls : Value) (d : Option Addr) : List V → Hp → VK → Prop := fun xs H Q => ∃ (D dd tp : Addr) (cs : List V) (us : List Value) (b : Bool) (fs : List (Str × V)), cls = .ref D ∧ d = some dd ∧ ExcC K D ∧ H dd = some (.xd fs) ∧ xs = [.ref a, .ref tp] ∧ H tp = some (.tup cs) ∧ Paired ClsV cs us ∧ PySem.W.kitAny K (.ref D) us = some b ∧ Q (.bl b) H
theorem exc_isSome {K : PySem.W.Frag} {D : Addr} (C : ExcC K D) : (PySem.W.clsIn K D).isSome = true := by
  obtain ⟨cd, hc, _⟩ := PySem.W.any_some C.hd
  rw [hc]
  rfl
theorem kisX {X : Cx} {K : PySem.W.Frag} {a : Addr} {cls : Value} {d : Option Addr} {oe : Obj} {pn : List (Addr × Obj)} (hK : X.K = K) (hz : Zc cls d oe) (hf : ∃ vs, oe.data = .fields vs) : CallR (X.suite a ((a, oe) :: pn)) (.builtin "isinstance") (rKX K a cls d) := by
  subst hK
  intro pins s σ H xs us Q I r h
  obtain ⟨D, dd, c, u, b, fs, rfl, rfl, C, hd, rfl, k, e, q⟩ := h
  obtain ⟨u1, u2, rfl, r1, r2⟩ := vals2 r
  cases r1
  have ec := k.eq r2
  subst ec
  obtain ⟨od, J⟩ := held_in I hz hf hd
  exact PySem.W.kia_one (PySem.W.kitx_exc (exc_isSome C) C.hg C.hk C.hs C.ha C.hn C.ht C.hm) I.kIn J e (fun z => nomatch z) fun tk => ⟨.bl b, H, I.kept (t' := tk) fun _ _ z => z, rfl, q⟩
theorem kisXT {X : Cx} {K : PySem.W.Frag} {a : Addr} {cls : Value} {d : Option Addr} {oe : Obj} {pn : List (Addr × Obj)} (hK : X.K = K) (hz : Zc cls d oe) (hf : ∃ vs, oe.data = .fields vs) : CallR (X.suite a ((a, oe) :: pn)) (.builtin "isinstance") (rKXT K a cls d) := by
  subst hK
  intro pins s σ H xs us Q I r h
  obtain ⟨D, dd, tp, cs, ws, b, fs, rfl, rfl, C, hd, rfl, hT, k, e, q⟩ := h
  obtain ⟨u1, u2, rfl, r1, r2⟩ := vals2 r
  cases r1
  cases r2
  obtain ⟨od, J⟩ := held_in I hz hf hd
  obtain ⟨_, its, rv, ⟨oc, ob, dt, sl⟩, g1, g2, n, g3⟩ : ObjOk X.prog X.w H s.heap tp (.tup cs) := I.hok tp _ hT
  have g2' : oc = .type "tuple" := g2
  subst g2'
  have g3' : dt = .seq its.toArray n := g3
  subst g3'
  have e3 := ClsV.all k rv
  subst e3
  exact PySem.W.kia_tup (PySem.W.kitx_exc (exc_isSome C) C.hg C.hk C.hs C.ha C.hn C.ht C.hm) I.kIn J g1 e (fun z => nomatch z) fun tk => ⟨.bl b, H, I.kept (t' := tk) fun _ _ z => z, rfl, q⟩
/-- a list of classes, as arguments -/
inductive ClsA : TA → List V → Prop
  | nil : ClsA tNil []
  | cons {v : V} {t : TA} {vs : List V} : ClsA t vs → ClsA (tCons (tC v) t) (v :: vs)
theorem ClsA.run {t : TA} {vs : List V} (h : ClsA t vs) : ∀ {σ : L2.St} {H : Hp} {Q : List V → Hp → Prop}, Q vs H → t σ H Q := by
  induction h with
  | nil => exact fun h => h
  | cons _ ih => exact fun h => ih h
def bIs (i : Nat) (a dd : Addr) (k : Nat) (b : Bool) : BEx := fun env M _ P => dQ (dAt env i) fun x => isC x a ∧ xQ (M dd) k fun _ => P (.bl b) M
section
variable {W : Wd} {H0 : Hp} {E : XS}
/-- the error in slot i, its dict -/
theorem held_b {F : Addr → Prop} {H : Hp} {M : Sto} {σ : L2.St} {env : List Sl} {X : XD} {i k : Nat} {a dd : Addr} {P : Prop} (c : Cfg W H0 E F H M σ env X) (h : dQ (dAt env i) fun x => isC x a ∧ xQ (M dd) k fun _ => P) : σ[i]? = some (some (.ref a)) ∧ (∃ f v, H dd = some (.xd [(f, v)])) ∧ P := by
  cases e : dAt env i with
  | d x =>
    rw [e] at h
    obtain ⟨hx, h⟩ := h
    obtain ⟨_, e1, v, rfl, r⟩ := c.m.at_ i _ (dAt_get e (fun z => by cases z))
    cases x with
    | cell b =>
      have hx : b = a := hx
      subst hx
      have ev := rv_cell r
      subst ev
      cases hM : M dd with
      | none =>
        rw [hM] at h
        exact h.elim
      | some ce =>
        rw [hM] at h
        cases ce with
        | xd k' ds =>
          match ds, h with
          | [y], ⟨hk, p⟩ =>
            obtain ⟨_, _, f', v, z, hf', hA, ez, rz⟩ := c.st.at_ dd _ hM
            exact ⟨e1, ⟨f', v, hA⟩, p⟩
          | [], h => exact h.elim
          | _ :: _ :: _, h => exact h.elim
        | _ => exact h.elim
    | _ => exact hx.elim
  | u =>
    rw [e] at h
    exact h.elim
  | o xs =>
    rw [e] at h
    exact h.elim
theorem b_isX {i k : Nat} {a dd : Addr} {c : V} {u : Value} {b : Bool} (C : ExcC W.K (W.ca k)) (hc : ClsV c u) (he : PySem.W.kitOne W.K (.ref (W.ca k)) u = some b) : BExp W H0 E (tCB (rKX W.K a (.ref (W.ca k)) (some dd)) (tCons (tVar i) (tCons (tC c) tNil))) (bIs i a dd k b) := ⟨fun σ env F H M Q P X cf h q => by
  obtain ⟨e1, ⟨f, v, hA⟩, p⟩ := held_b cf h
  exact ⟨_, e1, W.ca k, dd, c, u, b, _, rfl, rfl, C, hA, rfl, hc, he, q _ F H _ M p (.refl cf.st) (.bl b)⟩⟩
theorem b_isXT {i k : Nat} {a dd : Addr} {t : TA} {cs : List V} {us : List Value} {b : Bool} (C : ExcC W.K (W.ca k)) (ht : ClsA t cs) (hl : cs.length ≤ 1000) (hc : Paired ClsV cs us) (he : PySem.W.kitAny W.K (.ref (W.ca k)) us = some b) :
    BExp W H0 E (tCB (rKXT W.K a (.ref (W.ca k)) (some dd)) (tCons (tVar i) (tCons (tTup t) tNil))) (bIs i a dd k b) := ⟨fun σ env F H M Q P X cf h q => by
  obtain ⟨e1, ⟨f, v, hA⟩, p⟩ := held_b cf h
  refine ⟨_, e1, ht.run ⟨Nat.le_of_lt (len_size (by omega)), fun tp hn => ?_⟩⟩
  have x2 : Ext W F H F (upd H tp (.tup cs)) := Ext.lay cf.st.ok hn
  have hA2 : upd H tp (.tup cs) dd = some (.xd [(f, v)]) := by
    rw [upd_ne (ne_of_none hA hn)]
    exact hA
  exact ⟨W.ca k, dd, tp, cs, us, b, _, rfl, rfl, C, hA2, rfl, upd_same, hc, he, q _ F _ _ M p (x2.ex2 cf.st) (.bl b)⟩⟩
end
def coQ (o : Option Ce) (P : Nat → List Dat → Prop) : Prop := match o with
  | some (.obj k ds) => P k ds
  | _ => False
theorem coQ_at {o : Option Ce} {P : Nat → List Dat → Prop} (h : coQ o P) : ∃ k ds, o = some (.obj k ds) ∧ P k ds := by
  cases o with
  | none => exact h.elim
  | some c =>
    cases c with
    | obj k ds => exact ⟨k, ds, rfl, h⟩
    | _ => exact h.elim
/-- o.f, o a cell -/
def bFldC (c i : Nat) (eo : BEx) : BEx := fun env M X P => eo env M X fun x M1 => ceQ x fun a => coQ (M1 a) fun k ds => k = c ∧ oQ ds[i]? fun d => P d M1
def putN (ds : List Dat) (i : Nat) (d : Dat) : List Dat := if i < ds.length then ds.set i d else ds ++ [d]
/-- o.f = e, o a cell -/
def zSetF (c i : Nat) (eo ea : BEx) : BSt := fun D env M => ea env M (D.ex env) fun d M1 => eo env M1 (D.ex env) fun x M2 => ceQ x fun a => coQ (M2 a) fun k ds => k = c ∧ i ≤ ds.length ∧ D.nx env (M2.put a (some (.obj c (putN ds i d))))
theorem putF_same {f : Str} {v : V} : ∀ {fs : List (Str × V)} {u : V}, fs.lookup f = some u → (putF f v fs).length = fs.length
  | [], _, h => nomatch h
  | (g, x) :: r, u, h => by
    show (if g = f then (g, v) :: r else (g, x) :: putF f v r).length = _
    by_cases z : g = f
    · rw [if_pos z]
      rfl
    · rw [if_neg z]
      have hh : (f == g) = false := by simpa using fun e : f = g => z e.symm
      have h : r.lookup f = some u := by
        rw [List.lookup_cons, hh] at h
        exact h
      exact congrArg (· + 1) (putF_same h)
theorem RvFs.setAt {W : Wd} {F : Addr → Prop} {H : Hp} {f : Str} {v : V} {d : Dat} (a : Rv W F H v d) : ∀ {ks : List Str} {ds : List Dat} {fs : List (Str × V)} {i : Nat}, RvFs W F H fs ks ds → ks.Nodup → ks[i]? = some f → RvFs W F H (putF f v fs) ks (ds.set i d)
  | _, _, _, _, .nil, _, h => by simp at h
  | _, _, _, 0, .cons e a1 r, nd, h => by
    cases h
    obtain ⟨n1, n2⟩ := List.nodup_cons.mp nd
    exact .cons (by rw [lookup_putF, if_pos rfl]) a (r.put n1)
  | k :: ks, _, _, i + 1, .cons e a1 r, nd, h => by
    obtain ⟨n1, n2⟩ := List.nodup_cons.mp nd
    have h : ks[i]? = some f := h
    exact .cons (by rw [lookup_putF, if_neg (fun z => n1 (by rw [z]; exact List.mem_of_getElem? h))]; exact e) a1 (RvFs.setAt a r n2 h)
section
variable {W : Wd} {E : XS}
theorem b_fldC {H0 : Hp} {c i : Nat} {f : Str} {to : TE} {eo : BEx} (cl : Cls W.K (W.ca c)) (na : NoAttr W.K (W.ca c) f) (hf : (clsN c)[i]? = some f) (ho : BExp W H0 E to eo) : BExp W H0 E (tFld W.K to f) (bFldC c i eo) := ⟨fun σ env F H M Q P X cf h q => ho.run σ env F H M _ _ X cf h fun d F1 H1 v M1 p1 x1 r1 => by
  cases d with
  | cell a =>
    have e := rv_cell (show Rv W F1 H1 v (.cell a) from r1)
    subst e
    obtain ⟨k, ds, hM, rfl, p⟩ := coQ_at p1
    obtain ⟨nf, np, dx, fs, hA, lf, rf, no⟩ := x1.ok.at_ a _ hM
    cases e : ds[i]? with
    | none =>
      rw [e] at p
      exact p.elim
    | some d =>
      rw [e] at p
      have li := (List.getElem?_eq_some_iff.mp e).1
      obtain ⟨v, e1, rv⟩ := rf.get (i := i) (by rw [List.getElem?_take_of_lt li]; exact hf) e
      exact ⟨a, _, dx, fs, v, rfl, hA, cl, na, e1, q d F1 H1 v M1 p x1 rv⟩
  | _ => exact (show False from p1).elim⟩
theorem z_setF {c i : Nat} {f : Str} {to te : TE} {eo ea : BEx} (cl : Cls W.K (W.ca c)) (na : NoAttr W.K (W.ca c) f) (hf : (clsN c)[i]? = some f) (nd : (clsN c).Nodup) (ln : (clsN c).length < 900) (ho : ∀ H0, BExp W H0 E to eo) (he : ∀ H0, BExp W H0 E te ea) :
    BStm W E (sFld W.K to te f) (zSetF c i eo ea) := ⟨fun F0 H0 M0 F1 H1 De Da σ env F H M cf k h => by
  refine (he H0).run σ env F H M _ _ _ (cf.cfg k) h fun d Fa Ha v Ma p x rv => ?_
  have ca := cf.step x
  refine (ho H0).run σ env Fa Ha Ma _ _ _ (ca.cfg k) p fun o F' H' w M' p x2 ro => ?_
  have cb := ca.step x2
  cases o with
  | cell a =>
    have e := rv_cell (show Rv W F' H' w (.cell a) from ro)
    subst e
    obtain ⟨kk, ds, hM, rfl, hi, p⟩ := coQ_at p
    obtain ⟨nf, np, dx, fs, hA, lf, rf, no⟩ := x2.ok.at_ a _ hM
    have lds := rf.len
    rw [List.length_take] at lds
    have li : i < (clsN kk).length := (List.getElem?_eq_some_iff.mp hf).1
    refine ⟨a, W.ca kk, dx, fs, rfl, hA, cl, na, by omega, ?_⟩
    have rv2 : Rv W F' H' v d := Rv.sub (x2.sub x.ok) rv
    have sb : Sub F' H' F' (upd H' a (.ins (W.ca kk) dx (putF f v fs))) := fun c f => ⟨f, upd_ne (fun z => nf (by rw [← z]; exact f))⟩
    have lk : (putF f v fs).lookup f = some v := by rw [lookup_putF, if_pos rfl]
    have x3 := x2.ok.upd_cell (o := .ins (W.ca kk) dx (putF f v fs)) (c1 := .obj kk (putN ds i d)) hM (by
      refine ⟨dx, putF f v fs, upd_same, ?_⟩
      unfold putN
      by_cases z : i < ds.length
      · rw [if_pos z, List.length_set]
        have hf' : ((clsN kk).take ds.length)[i]? = some f := by rw [List.getElem?_take_of_lt z]; exact hf
        obtain ⟨u, eu, _⟩ := rf.get (i := i) hf' (List.getElem?_eq_getElem z)
        refine ⟨by rw [putF_same eu]; exact lf, (RvFs.setAt rv2 rf (nd.sublist (List.take_sublist _ _)) hf').sub sb, fun m hm => ?_⟩
        rw [lookup_putF, if_neg (fun e => hm (by rw [e]; exact List.mem_of_getElem? hf'))]
        exact no m hm
      · rw [if_neg z]
        have ei : i = ds.length := by omega
        subst ei
        have tk : (clsN kk).take (ds ++ [d]).length = (clsN kk).take ds.length ++ [f] := by
          rw [List.length_append, List.length_singleton, List.take_add_one, hf]
          rfl
        have nm : f ∉ (clsN kk).take ds.length := fun hm => by
          obtain ⟨j, hj⟩ := List.mem_iff_getElem?.mp hm
          have lj := (List.getElem?_eq_some_iff.mp hj).1
          rw [List.length_take] at lj
          rw [List.getElem?_take_of_lt (by omega)] at hj
          have := (List.getElem?_inj (i := j) (j := ds.length) (by omega) nd).mp (hj.trans hf.symm)
          omega
        refine ⟨?_, ?_, fun m hm => ?_⟩
        · have := putF_len f v fs
          rw [List.length_append, List.length_singleton]
          omega
        · rw [tk]
          exact ((rf.put nm).snoc lk rv2).sub sb
        · rw [tk] at hm
          rw [lookup_putF, if_neg (fun e => hm (by rw [e]; exact List.mem_append.mpr (.inr List.mem_cons_self)))]
          exact no m fun e => hm (List.mem_append.mpr (.inl e)))
    have c3 := cb.step x3
    exact k.nx _ _ _ _ _ c3.b c3.m p
  | _ => exact (show False from p).elim⟩
end
def toSpI2 (K : PySem.W.Frag) (ca : Nat → Addr) (c : Nat) (bsp : BSp) : Sp := fun vs H Q E => ∃ (po : Option (Addr × Addr)) (F : Addr → Prop) (H1 : Hp) (x dx : Addr) (ws : List V) (M : Sto) (ds : List Dat) (P : Dat → Sto → Prop) (X : XD),
  vs = .ref x :: ws ∧ H = upd (upd H1 dx (.own x)) x (.ins (ca c) dx []) ∧ H1 x = none ∧ H1 dx = none ∧ dx ≠ x ∧ SoOk ⟨K, ca, po⟩ F H1 M ∧ RvAll ⟨K, ca, po⟩ F H1 ws ds ∧ bsp (.cell x :: ds) (M.put x (some (.obj c []))) X P ∧ XOk ⟨K, ca, po⟩ F H1 M E X ∧
  ∀ d F' H' M' v, P d M' → Ex2 ⟨K, ca, po⟩ F H1 M F' H' M' → Rv ⟨K, ca, po⟩ F' H' v d → Q v H'
def bMake2 (c : Nat) (bsp : BSp) (ba : BFr) : BEx := fun env M X P => ba env M X fun ds M' => ∀ x, M' x = none → bsp (.cell x :: ds) (M'.put x (some (.obj c []))) X fun d M2 => d = .non ∧ P (.cell x) M2
section
variable {K : PySem.W.Frag} {ca : Nat → Addr} {po : Option (Addr × Addr)} {H0 : Hp} {E : XS}
theorem b_make2 {n c : Nat} {t : TA} {ba : BFr} {bsp : BSp} (h : BArg ⟨K, ca, po⟩ H0 E n t ba) : BExp ⟨K, ca, po⟩ H0 E (tMakeS (ca c) (toSpI2 K ca c bsp) E t) (bMake2 c bsp ba) :=
  ⟨fun σ env F H M Q P X cf q k => h.run σ env F H M _ _ X cf q fun ds F1 H1 vs M1 p1 x1 r1 _ => fun x dx hx hdx hne =>
    ⟨po, F1, H1, x, dx, vs, M1, ds, _, X, rfl, rfl, hx, hdx, hne, x1.ok, r1, p1 x (x1.ok.new hx), (cf.step x1).x, fun d F' H' M' v p y r => by
      obtain ⟨rfl, p⟩ := p
      cases r
      exact ⟨rfl, k (.cell x) F' H' (.ref x) M' p (x1.trans y) (.cell x)⟩⟩⟩
end
/-- an object's cell that is not changed any more -/
def bFrzO (be : BEx) : BEx := fun env M X P => be env M X fun x M1 => ceQ x fun a => coQ (M1 a) fun k ds => ds.length = (clsN k).length ∧ P (.obj k ds) (M1.put a none)
/-- the start of an __init__ -/
theorem so_made {W : Wd} {F : Addr → Prop} {H1 : Hp} {M : Sto} {x dx : Addr} {c : Nat} (ok : SoOk W F H1 M) (hx : H1 x = none) (hdx : H1 dx = none) (hne : dx ≠ x) : Ex2 W F H1 M F (upd (upd H1 dx (.own x)) x (.ins (W.ca c) dx [])) (M.put x (some (.obj c []))) := by
  have e1 : Ext W F H1 F (upd H1 dx (.own x)) := Ext.lay ok.ok hdx
  have e2 : Ext W F (upd H1 dx (.own x)) F (upd (upd H1 dx (.own x)) x (.ins (W.ca c) dx [])) := Ext.lay e1.ok (by rw [upd_ne hne.symm]; exact hx)
  have y := (e1.ex2 ok).trans (e2.ex2 (e1.ex2 ok).ok)
  refine ⟨y.up, y.dn, y.kp, y.al, fun b hb => ?_, y.ok.new_cell (fun f => ok.ok.tr x f hx) (ok.new hx) (ok.ok.pne hx) ⟨dx, [], upd_same, Nat.le_refl _, .nil, fun _ _ => rfl⟩⟩
  by_cases z : b = x
  · rw [z]
    exact .inr hx
  · rw [Sto.put_n z] at hb
    exact .inl hb
theorem fn_runI2 {K : PySem.W.Frag} {ca : Nat → Addr} {c : Nat} {bsp : BSp} {N : List Str} {vs : List V} {H : Hp} {Q : VK} {E : XK} {ts : TS} {bs : BSt} (h : toSpI2 K ca c bsp vs H Q E) (hs : ∀ po, BStm ⟨K, ca, po⟩ (fun _ => E) ts bs) (hl : ∀ ds M X P, bsp ds M X P → ds.length ≤ N.length)
    (hb : ∀ ds M X P, bsp ds M X P → bs { nx := fun _ M => P .non M, rt := P, ex := fun _ => X } (ds.map Sl.d ++ List.replicate (N.length - ds.length) .u) M) : ts { nx := fun _ H' => Q .non H', rt := Q } (L2.start N vs) H := by
  obtain ⟨po, F, H1, x, dx, ws, M, ds, P, X, rfl, rfl, hx, hdx, hne, ok, r, a, xo, k⟩ := h
  have y := so_made (W := ⟨K, ca, po⟩) (c := c) ok hx hdx hne
  have r2 : RvAll ⟨K, ca, po⟩ F (upd (upd H1 dx (.own x)) x (.ins (ca c) dx [])) (.ref x :: ws) (.cell x :: ds) := .cons (.cell x) (r.sub (y.sub ok))
  exact (hs po).run F _ _ F _ _ { nx := fun _ M => P .non M, rt := P, ex := fun _ => X } _ _ F _ _ ⟨⟨.refl y.ok, Sub.refl F _⟩, mt_start2 r2 (hl _ _ X P a)⟩
    ⟨fun σ env F' H' M' b m p => k .non F' H' M' .non p (y.trans b.ex) .non, fun v d F' H' M' b r p => k d F' H' M' v p (y.trans b.ex) r, fun _ _ _ _ _ _ _ p => p.elim, fun _ _ _ _ _ _ _ p => p.elim, fun _ _ _ _ _ b _ => xo.step (y.trans b.ex)⟩ (hb _ _ X P a)
theorem sp_lenI2 {K : PySem.W.Frag} {ca : Nat → Addr} {c n : Nat} {bsp : BSp} (hn : ∀ ds M X P, bsp ds M X P → ds.length = n) {vs : List V} {H : Hp} {Q : VK} {E : XK} (h : toSpI2 K ca c bsp vs H Q E) : vs.length = n := by
  obtain ⟨po, F, H1, x, dx, ws, M, ds, P, X, rfl, rfl, hx, hdx, hne, ok, r, a, xo, k⟩ := h
  have := hn _ _ X P a
  rw [List.length_cons] at this ⊢
  rw [r.length]
  exact this
structure XMk (P : Program) (w : World) (K : PySem.W.Frag) (mg : Str → Option Value) (base : Heap) (x : Str) (C : Addr) (f : Str) : Prop where
  ex : ∃ (fI : Addr) (fd : FuncData) (ps : List Str), OexC K C ∧ PySem.W.findIn K (.ref C) "__init__" = some (some (.ref fI)) ∧ PySem.W.typeIn K (.ref fI) = some (.type "function") ∧ FnOk P w K mg base CX0 1 fI fd ps (spXI K C f) ∧ Binds K fd ps [] ∧ mg x = some (.ref C)
theorem pmk_x {X : Cx} {x f : Str} {C : Addr} {e : Expr} {es : List Expr} {ta : TA} {p pos : Pos} {k : Nat} (c : XMk X.prog X.w X.K X.mg X.base x C f) (hr : Room k X.A) (hk : 2 ≤ k) (hg : Gl X x) (ha : PA X (e :: es) ta)
    (hdb : (x == ("__debug__" : Str)) = false := by decide) (he : starEach (e :: es) X.env = (false, eval e X.env) :: starEach es X.env := by rfl) (hpl : (backTo pos (starEach es X.env)).any (·.1) = false := by rfl) : PMk X (.Call (.Name x p) (e :: es) [] pos) (tMkO C (spXI X.K C f) [] ta) := by
  obtain ⟨fI, fd, ps, T, iC, tI, F, hb, hm⟩ := c.ex
  exact pmk_oex T iC tI F (hr.mono hk) hb .nil pass0 hg hm ha hdb he hpl
structure CalX (P : Program) (w : World) (K : PySem.W.Frag) (mg : Str → Option Value) (base : Heap) (k : Nat) (x : Str) (sp : Sp) : Prop where
  ex : ∃ (f : Addr) (fd : FuncData) (ps : List Str), FnOk P w K mg base (L2.CX P w) k f fd ps sp ∧ mg x = some (.ref f) ∧ PySem.W.keepIn K (.ref f) = true ∧ Binds K fd ps []
theorem pe_cX {X : Cx} {x : Str} {sp : Sp} {W : WX} {e : Expr} {es : List Expr} {t : TA} {p pos : Pos} {k n : Nat} (c : CalX X.prog X.w X.K X.mg X.base n x sp) (tk : Takes X W) (hr : Room k X.A) (hk : n ≤ k) (hg : Gl X x) (ha : PA X (e :: es) t)
    (hdb : (x == ("__debug__" : Str)) = false := by decide) (he : starEach (e :: es) X.env = (false, eval e X.env) :: starEach es X.env := by rfl) (hpl : (backTo pos (starEach es X.env)).any (·.1) = false := by rfl) : PE X (.Call (.Name x p) (e :: es) [] pos) (tCallS sp (WE W) t) := by
  obtain ⟨f, fd, ps, F, hm, hkp, hb⟩ := c.ex
  exact pe_callS F (hr.mono hk) hg hm hkp hb (fun σ => passAt tk σ) ha hdb he hpl
/-- a class whose __init__ may raise -/
structure MakX (P : Program) (w : World) (K : PySem.W.Frag) (mg : Str → Option Value) (base : Heap) (k : Nat) (x : Str) (C : Addr) (sp : Sp) : Prop where
  ex : ∃ (f : Addr) (fd : FuncData) (ps : List Str), Mk K C f ∧ FnOk P w K mg base (L2.CX P w) k f fd ps sp ∧ mg x = some (.ref C) ∧ Binds K fd ps []
theorem pe_mkX {X : Cx} {x : Str} {C : Addr} {sp : Sp} {W : WX} {e : Expr} {es : List Expr} {t : TA} {p pos : Pos} {k n : Nat} (c : MakX X.prog X.w X.K X.mg X.base n x C sp) (tk : Takes X W) (hr : Room k X.A) (hk : n + 1 ≤ k) (hg : Gl X x) (ha : PA X (e :: es) t)
    (hdb : (x == ("__debug__" : Str)) = false := by decide) (he : starEach (e :: es) X.env = (false, eval e X.env) :: starEach es X.env := by rfl) (hpl : (backTo pos (starEach es X.env)).any (·.1) = false := by rfl) : PE X (.Call (.Name x p) (e :: es) [] pos) (tMakeS C sp (WE W) t) := by
  obtain ⟨f, fd, ps, M, F, hm, hb⟩ := c.ex
  exact pe_makeS M F (hr.mono hk) hg hm hb (fun σ => passAt tk σ) ha hdb he hpl
theorem mkO_of {K : PySem.W.Frag} {C : Addr} {f : Str} {G : Value → Option Addr → Hp → Prop} {vs : List V} {H1 : Hp} (h : ∃ v, vs = [v] ∧ ∀ d, H1 d = none → G (.ref C) (some d) (upd H1 d (.xd [(f, v)]))) : vs.length ≤ 1000 ∧ ∀ a, H1 a = none → spXI K C f (.ref a :: (vs ++ [])) (upd H1 a (exo a C none))
    (fun v H2 => v = .non ∧ ∃ (d : Addr) (fs : List (Str × V)), H2 a = some (exo a C (some d)) ∧ H2 d = some (exd d fs) ∧ H1 d = none ∧ G (.ref C) (some d) (upd (L2.del H2 a) d (.xd fs))) (fun _ _ _ => False) := by
  obtain ⟨v, rfl, hv⟩ := h
  refine ⟨Nat.le_of_ble_eq_true rfl, fun a ha => ⟨a, v, rfl, upd_same, fun dx hdx hne => ⟨rfl, dx, [(f, v)], upd_same, ?_, ?_, ?_⟩⟩⟩
  · rw [upd_ne hne]
    exact upd_same
  · rw [upd_ne hne] at hdx
    exact hdx
  · rw [upd_ne hne] at hdx
    have e : upd (L2.del (upd (upd (upd H1 a (exo a C none)) dx (exd dx [(f, v)])) a (exo a C (some dx))) a) dx (.xd [(f, v)]) = upd H1 dx (.xd [(f, v)]) := by
      funext b
      by_cases h1 : b = dx
      · rw [h1, upd_same, upd_same]
      · rw [upd_ne h1, upd_ne h1]
        by_cases h2 : b = a
        · rw [h2, del_same, ha]
        · rw [del_ne h2, upd_ne h2, upd_ne h1, upd_ne h2]
    rw [e]
    exact hv dx hdx
theorem z_raiseO {W : Wd} {E : XS} {k : Nat} {f : Str} {ta : TA} {ba : BFr} (hf : xcN k = some f) (ha : ∀ H0, BArg W H0 E 1 ta ba) : BStm W E (tRaiseO (W.ca k) (spXI W.K (W.ca k) f) (fun cls d σ H => E σ cls d H) ta) (zRaise k ba) := ⟨fun F0 H0 M0 F1 H1 De Da σ env F H M c kk h =>
  (ha H0).run σ env F H M _ _ _ (c.cfg kk) h fun ds F' H' vs M' p x r l => mkO_of (G := fun cls d H => E σ cls d H) (by
    match ds, l, p, r with
    | [d], _, p, .cons (v := v) r1 .nil =>
      refine ⟨v, rfl, fun dd hd => ?_⟩
      have x2 : Ext W F' H' F' (upd H' dd (.xd [(f, v)])) := Ext.lay x.ok.ok hd
      refine (c.cfg kk).x k [d] (some dd) F' (upd H' dd (.xd [(f, v)])) M' (x.trans (x2.ex2 x.ok)) ?_ (fun a e => by cases e; exact x.there hd) p
      unfold XAt
      rw [hf]
      exact ⟨dd, v, d, rfl, upd_same, rfl, r1.sub (x2.sub x.ok.ok), fun f => x.ok.ok.tr dd f hd, x.ok.new hd, x.ok.ok.pne hd⟩)⟩
theorem coQ_o {k : Nat} {ds : List Dat} {P : Nat → List Dat → Prop} : coQ (some (.obj k ds)) P = P k ds := rfl
theorem isC_c {a b : Addr} : isC (.cell b) a = (b = a) := rfl
theorem pe_globC {X : Cx} {x : Str} {C : Addr} {pos : Pos} (hg : Gl X x) (hm : X.mg x = some (.ref C)) (hd : (x == ("__debug__" : Str)) = false := by decide) : PE X (.Name x pos) (tC (.ref C)) := pe_glob (v := .ref _) hg hm rfl hd
open AutoSeq1 (wpAny_loadPart')
theorem tuple_eqB {prog : Program} {w : World} {A : Around} {R : Result → Shared → Prop} (l b : Addr) (items items2 : Array Value) (n n2 : Nat) (dd dd2 : Option Addr) (sl sl2 : Array (Option Value)) (I : Nat → Shared → Prop) (N : Shared → Prop)
    (turn : ∀ i (h1 : i < items.size) (h2 : i < items2.size) s, I i s → wpAny (model prog w) A.in1 (eqBool items[i] items2[i]) (fun r s' => (r = true ∧ I (i + 1) s') ∨ (r = false ∧ N s')) (fun e s' => R (.error e) s') s)
    (fin : ∀ s, I (min items.size items2.size) s → R (.ok (.ret (.bool (items.size == items2.size)))) s) (bad : ∀ s, N s → R (.ok (.ret (.bool false))) s)
    {s : Shared} (hl1 : s.heap.get? l = some { cls := .type "tuple", dict := dd, data := .seq items n, slots := sl }) (hb1 : s.heap.get? b = some { cls := .type "tuple", dict := dd2, data := .seq items2 n2, slots := sl2 }) (h : I 0 s) :
    wpAny (model prog w) A.in1 (Builtin.«tuple.__eq__» ⟨[.ref l, .ref b], []⟩) (GQ.FinOf prog w A R) (fun e s' => R (.error e) s') s := by
  have f2 := AutoSeq1.sub_tuple_tuple
  have hZ : (items.toList.zip items2.toList).length = min items.size items2.size := by simp
  have h0 := h
  obtain ⟨hp, g, d, tk, os⟩ := s
  wp_walk using wpAny_loadPart' hl1, wpAny_loadPart' hb1, wpAny_forIn_list _ (fun rest b s' => b.1 = none ∧ ∃ i, rest = (items.toList.zip items2.toList).drop i ∧ i ≤ min items.size items2.size ∧ I i s') _
  case turn =>
    rintro ⟨y, x⟩ rest b s' ⟨hb', i, hz, hi, hI⟩
    have hlt : i < (items.toList.zip items2.toList).length := by
      rcases Nat.lt_or_ge i (items.toList.zip items2.toList).length with h' | h'
      · exact h'
      · rw [List.drop_of_length_le h'] at hz; cases hz
    have hm : i < min items.size items2.size := hZ ▸ hlt
    have h1 : i < items.size := Nat.lt_of_lt_of_le hm (Nat.min_le_left _ _)
    have h2 : i < items2.size := Nat.lt_of_lt_of_le hm (Nat.min_le_right _ _)
    rw [List.drop_eq_getElem_cons hlt] at hz
    injection hz with hyx hrest
    have hy : y = items[i] := by have := congrArg Prod.fst hyx; simpa using this
    have hx : x = items2[i] := by have := congrArg Prod.snd hyx; simpa using this
    subst hy hx
    refine wpAny_bind (wpAny_mono (turn i h1 h2 s' hI) (fun r s2 q2 => ?_) fun _ _ x => x)
    rcases q2 with ⟨hr, q2⟩ | ⟨hr, q2⟩
    · subst hr
      wp_walk
      exact ⟨rfl, i + 1, hrest, hm, q2⟩
    · subst hr
      have hR := bad s2 q2
      wp_walk
      simpa using hR
  case fin =>
    rintro ⟨b1, b2⟩ s' ⟨hb', i, hz, hi, hI⟩
    simp only at hb'
    subst hb'
    have hge : min items.size items2.size ≤ i := by
      rcases Nat.lt_or_ge i (items.toList.zip items2.toList).length with h' | h'
      · rw [List.drop_eq_getElem_cons h'] at hz; cases hz
      · exact hZ ▸ h'
    have hi' : i = min items.size items2.size := Nat.le_antisymm hi hge
    have hR := fin s' (hi' ▸ hI)
    wp_walk
    simpa [Builtin.Tuple.tupleCompareSizes] using hR
  case h =>
    exact ⟨rfl, 0, rfl, Nat.zero_le _, h0⟩
theorem rc_tupB {prog : Program} {w : World} {A : Around} {E : Value → Shared → Prop} {s : Shared} {l b : Addr} {items items2 : Array Value} {Q : Value → Shared → Prop} (hu : A.units < cLine) (I : Nat → Shared → Prop) (N : Shared → Prop)
    (hl : s.heap.IsTuple l items) (hb : s.heap.IsTuple b items2)
    (turn : ∀ i (h1 : i < items.size) (h2 : i < items2.size) s, I i s → wpAny (model prog w) A.in1 (eqBool items[i] items2[i]) (fun r s' => (r = true ∧ I (i + 1) s') ∨ (r = false ∧ N s')) E s)
    (fin : ∀ s, I (min items.size items2.size) s → Q (.bool (items.size == items2.size)) s) (bad : ∀ s, N s → Q (.bool false) s) (h : I 0 s) : wpAny (model prog w) A (richCompare .Eq (.ref l) (.ref b)) Q E s := by
  obtain ⟨⟨cls, dd, data, sl⟩, ho, hc, n, hd⟩ := id hl
  obtain ⟨⟨cls2, dd2, data2, sl2⟩, ho2, hc2, n2, hd2⟩ := id hb
  simp only at hc hd hc2 hd2
  subst hc hd hc2 hd2
  refine wpAny_richCompare_same_room (op := .Eq) ⟨_, ho, rfl⟩ ⟨_, ho2, rfl⟩ F.slot_tuple_eq (GQ.call_here F.slot_tuple_eq ⟨_, ho, rfl⟩ F.entry_tuple_eq (F.args_tuple_eq_2 _ _) ?_) hu
  exact tuple_eqB (R := wants (fun v s' => v ≠ .notImplemented ∧ Q v s') E) l b items items2 n n2 dd dd2 sl sl2 I N turn (fun s' q => ⟨(fun x => nomatch x), fin s' q⟩) (fun s' q => ⟨(fun x => nomatch x), bad s' q⟩) ho ho2 h
/-- a value reads in one way only -/
def UQ (S : Dat → Dat → Prop) : Prop := ∀ (W : Wd) (F : Addr → Prop) (H : Hp) (v : V) (d e : Dat), S d e → Rv W F H v d → Rv W F H v e → d = e
def EqS (X : Cx) (ca : Nat → Addr) (n : Nat) (S : Dat → Dat → Prop) : Prop :=
  ∀ (po : Option (Addr × Addr)) (A : Around) (pins : List (Addr × Obj)) (s : Shared) (σ : L2.St) (F : Addr → Prop) (H : Hp) (x y : V) (d e : Dat) (u v : Value), L2.Sub X n A → Inv X pins σ H s → RelV x u → RelV y v → Okk ⟨X.K, ca, po⟩ F H → Rv ⟨X.K, ca, po⟩ F H x d → Rv ⟨X.K, ca, po⟩ F H y e → S d e →
    wpAny (model X.prog X.w) A (eqBool u v) (fun r s' => (r = true ↔ d = e) ∧ ∃ F' H', Inv X pins σ H' s' ∧ Ext ⟨X.K, ca, po⟩ F H F' H') X.xe s
def RcS (X : Cx) (ca : Nat → Addr) (n : Nat) (S : Dat → Dat → Prop) : Prop :=
  ∀ (po : Option (Addr × Addr)) (A : Around) (pins : List (Addr × Obj)) (s : Shared) (σ : L2.St) (F : Addr → Prop) (H : Hp) (x y : V) (d e : Dat) (u v : Value), L2.Sub X n A → Inv X pins σ H s → RelV x u → RelV y v → Okk ⟨X.K, ca, po⟩ F H → Rv ⟨X.K, ca, po⟩ F H x d → Rv ⟨X.K, ca, po⟩ F H y e → S d e →
    wpAny (model X.prog X.w) A (richCompare .Eq u v) (fun r s' => (∃ b, r = .bool b ∧ (b = true ↔ d = e)) ∧ ∃ F' H', Inv X pins σ H' s' ∧ Ext ⟨X.K, ca, po⟩ F H F' H') X.xe s
def refD : Dat → Prop
  | .tup _ => True
  | .obj _ _ => True
  | _ => False
theorem rv_ref {W : Wd} {F : Addr → Prop} {H : Hp} {v : V} {d : Dat} (r : Rv W F H v d) (h : refD d) : ∃ a, v = .ref a := by
  cases r <;> first | exact h.elim | exact ⟨_, rfl⟩
section
variable {X : Cx} {ca : Nat → Addr} {n : Nat} {S : Dat → Dat → Prop}
theorem RcS.eqS (h : RcS X ca n S) (hr : ∀ d e, S d e → refD d ∧ refD e) (hu : UQ S) : EqS X ca n S := by
  intro po A pins s σ F H x y d e u v sb I rx ry ok r1 r2 hs
  obtain ⟨a, rfl⟩ := rv_ref r1 (hr d e hs).1
  obtain ⟨b, rfl⟩ := rv_ref r2 (hr d e hs).2
  cases rx
  cases ry
  by_cases hab : a = b
  · subst hab
    exact SeqAt.EqAt.same (A := A) (s := s) (.ref a) X.prog X.w X.xe _ ⟨⟨fun _ => hu _ _ _ _ _ _ hs r1 r2, fun _ => rfl⟩, F, H, I, .refl ok⟩
  · refine GQ.eqBool_refG hab (wpAny_mono (h po A pins s σ F H (.ref a) (.ref b) d e _ _ sb I rfl rfl ok r1 r2 hs) (fun r s' q => ?_) fun _ _ x => x)
    obtain ⟨⟨c, rfl, hc⟩, q⟩ := q
    exact ⟨c, rfl, hc, q⟩
/-- tuples, item by item -/
def tupS (S : Dat → Dat → Prop) : Dat → Dat → Prop := fun d e => ∃ ds es, d = .tup ds ∧ e = .tup es ∧ ∀ (i : Nat) (x y : Dat), ds[i]? = some x → es[i]? = some y → S x y
theorem RvAll.uq (hu : UQ S) {W : Wd} {F : Addr → Prop} {H : Hp} : ∀ {vs : List V} {ds es : List Dat}, (∀ (i : Nat) (x y : Dat), ds[i]? = some x → es[i]? = some y → S x y) → RvAll W F H vs ds → RvAll W F H vs es → ds = es
  | _, _, _, _, .nil, .nil => rfl
  | _, _, _, h, .cons a r, .cons b q => by
    rw [hu _ _ _ _ _ _ (h 0 _ _ rfl rfl) a b, RvAll.uq hu (fun i x y h1 h2 => h (i + 1) x y h1 h2) r q]
theorem UQ.tup (hu : UQ S) : UQ (tupS S) := fun W F H v d e hs r1 r2 => by
  obtain ⟨ds, es, rfl, rfl, h⟩ := hs
  cases r1 with
  | @tup a vs _ hA rr =>
    cases r2 with
    | @tup _ ws _ hB qq =>
      have e1 : vs = ws := by
        obtain ⟨_, o, e1, t1⟩ := hA
        obtain ⟨_, o2, e2, t2⟩ := hB
        rw [e1] at e2
        cases e2
        obtain ⟨_, _, rfl⟩ := t1
        obtain ⟨_, _, h2⟩ := t2
        cases h2
        rfl
      subst e1
      rw [RvAll.uq hu h rr qq]
theorem RcS.tup (h : EqS X ca n S) : RcS X ca (n + 1) (tupS S) := by
  intro po A pins s σ F H x y d e u v sb I rx ry ok r1 r2 hs
  obtain ⟨ds, es, rfl, rfl, hs⟩ := hs
  cases r1 with
  | @tup a vs _ hA rr =>
    cases r2 with
    | @tup b ws _ hB qq =>
      cases rx
      cases ry
      obtain ⟨its, r, e, z⟩ := I.tuple hA.sq
      obtain ⟨its2, r2, e2, z2⟩ := I.tuple hB.sq
      have l1 : its.length = ds.length := by rw [← r.length, rr.length]
      have l2 : its2.length = es.length := by rw [← r2.length, qq.length]
      refine rc_tupB sb.room.units0 (fun i s' => ∃ F' H', Inv X pins σ H' s' ∧ Ext ⟨X.K, ca, po⟩ F H F' H' ∧ ∀ j, j < i → ds[j]? = es[j]?) (fun s' => ∃ F' H', Inv X pins σ H' s' ∧ Ext ⟨X.K, ca, po⟩ F H F' H' ∧ ds ≠ es) e e2 (fun i h1 h2 s' q => ?_) (fun s' q => ?_) (fun s' q => ?_) ⟨F, H, I, .refl ok, fun j hj => absurd hj (Nat.not_lt_zero j)⟩
      · obtain ⟨F1, H1, I1, x1, hj⟩ := q
        have k1 : i < vs.length := by rw [r.length]; simpa using h1
        have k2 : i < ws.length := by rw [r2.length]; simpa using h2
        obtain ⟨u, hu, ru⟩ := r.get (List.getElem?_eq_getElem k1)
        obtain ⟨v, hv, rv⟩ := r2.get (List.getElem?_eq_getElem k2)
        have g1 : its[i]? = some its.toArray[i] := by
          have h1' : i < its.length := by simpa using h1
          rw [List.getElem?_eq_getElem h1'] <;> simp
        have g2 : its2[i]? = some its2.toArray[i] := by
          have h2' : i < its2.length := by simpa using h2
          rw [List.getElem?_eq_getElem h2'] <;> simp
        rw [g1] at hu
        rw [g2] at hv
        rw [Option.some.inj hu, Option.some.inj hv]
        obtain ⟨d1, a1, b1⟩ := rr.getV (List.getElem?_eq_getElem k1)
        obtain ⟨d2, a2, b2⟩ := qq.getV (List.getElem?_eq_getElem k2)
        refine wpAny_mono (h po A.in1 pins s' σ F1 H1 _ _ d1 d2 _ _ sb.in1 I1 ru rv x1.ok (b1.sub (x1.sub ok)) (b2.sub (x1.sub ok)) (hs i d1 d2 a1 a2)) (fun r s2 q => ?_) fun _ _ x => x
        obtain ⟨hr, F2, H2, I2, x2⟩ := q
        cases r with
        | true =>
          refine .inl ⟨rfl, F2, H2, I2, x1.trans ok x2, fun j lt => ?_⟩
          by_cases z : j = i
          · subst z
            rw [a1, a2, hr.mp rfl]
          · exact hj j (by omega)
        | false =>
          refine .inr ⟨rfl, F2, H2, I2, x1.trans ok x2, fun z => ?_⟩
          rw [z, a2] at a1
          exact absurd (hr.mpr (Option.some.inj a1).symm) (by decide)
      · obtain ⟨F1, H1, I1, x1, hj⟩ := q
        refine ⟨⟨_, rfl, ?_⟩, F1, H1, I1, x1⟩
        rw [List.size_toArray, List.size_toArray, l1, l2, beq_iff_eq]
        rw [List.size_toArray, List.size_toArray, l1, l2] at hj
        refine ⟨fun z => ?_, fun z => by rw [Dat.tup.inj z]⟩
        congr 1
        refine List.ext_getElem? fun j => ?_
        by_cases lt : j < ds.length
        · exact hj j (by omega)
        · rw [List.getElem?_eq_none (by omega), List.getElem?_eq_none (by omega)]
      · obtain ⟨F1, H1, I1, x1, hj⟩ := q
        exact ⟨⟨false, rfl, (fun z => by cases z), fun z => absurd (Dat.tup.inj z) hj⟩, F1, H1, I1, x1⟩
/-- objects of one class, by its own == -/
def objS (c : Nat) (asp : ASp) : Dat → Dat → Prop := fun d e => (∃ ds es, d = .obj c ds ∧ e = .obj c es) ∧ asp [d, e] fun z => ∃ b, z = .bl b ∧ (b = true ↔ d = e)
theorem objS_ref {c : Nat} {asp : ASp} : ∀ d e, objS c asp d e → refD d ∧ refD e := fun d e ⟨⟨ds, es, h1, h2⟩, _⟩ => by
  subst h1 h2
  exact ⟨trivial, trivial⟩
theorem RcS.obj {CX : CXT} {c : Nat} {asp : ASp} {f : Addr} {fd : FuncData} {ps : List Str} {E : XK} (Fn : FnOk X.prog X.w X.K X.mg X.base CX n f fd ps (toSp X.K ca asp))
    (hs : PySem.W.findIn X.K (.ref (ca c)) "__eq__" = some (some (.ref f))) (hf : PySem.W.isFn X.K (.ref f) = true) (hb : Binds X.K fd ps []) (hx : Passes CX X E) : RcS X ca n (objS c asp) := by
  intro po A pins s σ F H x y d e u v sb I rx ry ok r1 r2 hS
  obtain ⟨⟨ds, es, rfl, rfl⟩, ha⟩ := hS
  cases r1 with
  | @obj a dx _ fs _ fa hA rf no =>
    cases r2 with
    | @obj b dy _ gs _ fb hB rg no2 =>
      cases rx
      cases ry
      obtain ⟨mA, J, _⟩ := ins_get I.hok hA
      obtain ⟨mB, J', _⟩ := ins_get I.hok hB
      obtain ⟨od, J, _⟩ := J.look
      obtain ⟨od', J', _⟩ := J'.look
      obtain ⟨m, hF⟩ := I.fr
      refine PySem.W.cmp_K (op := .Eq) (tb := .ref (ca c)) sb.room.units0 hF I.ok.mod.kin J J'.type (by simp [PySem.W.notFirst]) hs hf ?_
      have hsp : toSp X.K ca asp [.ref a, .ref b] H (fun v H' => (∃ b, v = .bl b ∧ (b = true ↔ Dat.obj c ds = Dat.obj c es)) ∧ ∃ F', Ext ⟨X.K, ca, po⟩ F H F' H') E := ⟨po, F, _, _, ok, .cons (.obj fa hA rf no) (.cons (.obj fb hB rg no2) .nil), ha, fun d F' H' v ⟨b, hb, p⟩ x r => by
        subst hb
        cases r
        exact ⟨⟨b, rfl, p⟩, F', x⟩⟩
      have e0 : Env0 X.prog X.w X.K X.mg X.base A X.stack s H := by
        have e := I.env0
        exact ⟨by rw [sb.fr]; exact e.frames, e.mod, e.bs, e.bsz, e.funs, e.frf, e.hok, e.bare⟩
      have hl := Fn.len _ _ _ _ hsp
      have r2 : Vals [V.ref a, V.ref b] [Value.ref a, Value.ref b] := .cons rfl (.cons rfl .nil)
      refine wpAny_call (codeAny_mono (Fn.run A X.stack s H ⟨[.ref a, .ref b], []⟩ [.ref a, .ref b] [.ref a, .ref b] _ E sb.room e0 (by
        have := hb s [.ref a, .ref b] I.kIn (by simpa using hl)
        simpa using this) r2 hsp) fun r s' hq => ?_)
      cases r with
      | error e => exact hx pins σ H s e s' I hq
      | ok fl =>
        cases fl with
        | ret w =>
          obtain ⟨z, H', I', rz, ⟨c, ez, hc⟩, F', ex⟩ := I.after hq
          subst ez
          cases rz
          exact ⟨⟨c, rfl, hc⟩, F', H', I', ex⟩
        | next => exact False.elim hq
        | brk => exact False.elim hq
        | cont => exact False.elim hq
theorem EqS.mono {m : Nat} (h : EqS X ca n S) (hn : n ≤ m) : EqS X ca m S := fun po A pins s σ F H x y d e u v sb => h po A pins s σ F H x y d e u v (sb.mono hn)
theorem RcS.mono {m : Nat} (h : RcS X ca n S) (hn : n ≤ m) : RcS X ca m S := fun po A pins s σ F H x y d e u v sb => h po A pins s σ F H x y d e u v (sb.mono hn)
end
theorem FzT.fn {W : Wd} {F : Addr → Prop} {H : Hp} {a : Addr} {vs ws : List V} (hA : FzT W F H a vs) (hB : FzT W F H a ws) : vs = ws := by
  obtain ⟨_, o, e1, t1⟩ := hA
  obtain ⟨_, o2, e2, t2⟩ := hB
  rw [e1] at e2
  cases e2
  obtain ⟨_, _, rfl⟩ := t1
  obtain ⟨_, _, h2⟩ := t2
  cases h2
  rfl
structure Rm (k : Nat) (A : Around) : Prop where
  rm : (A.depth + 3 * k + 5 < recursionLimit) ∧ (A.units + 16 * k + 200 < cLine)
theorem Rm.mono {j k : Nat} {A : Around} (r : Rm k A) (h : j ≤ k) : Rm j A := ⟨by have := r.rm.1; omega, by have := r.rm.2; omega⟩
theorem Rm.deep {k : Nat} {A : Around} (r : Rm (k + 1) A) (env : Env) : Rm k (A.deeper env) := ⟨by have := r.rm.1; show A.depth + 1 + 3 * k + 5 < _; omega, by have := r.rm.2; show A.units + 3 + 16 * k + 200 < _; omega⟩
structure FnW (P : Program) (w : World) (K : PySem.W.Frag) (mg : Str → Option Value) (base : Heap) (k : Nat) (f : Addr) (fd : FuncData) (ps : List Str) (sp : Sp) : Prop where
  ln : ∀ vs H Q E, sp vs H Q E → vs.length = ps.length
  go : ∀ (A : Around) (outer : List Env) (s : Shared) (H : Hp) (args : Args) (us : List Value) (vs : List V) (Q : VK) (E : XK), Rm k A → Env0 P w K mg base A outer s H → BindsTo s fd args (ps.zip us) → Vals vs us → sp vs H Q E → codeAny (model P w) A (.call (.ref f) args) (CR CX0 outer P w H s Q E) s
section
variable {P : Program} {w : World} {K : PySem.W.Frag} {mg : Str → Option Value} {base : Heap}
def cxW (P : Program) (w : World) (K : PySem.W.Frag) (mg : Str → Option Value) (base : Heap) (N : List Str) (qual : Str) (scope : Scope) (f : Addr) (cd : Value) (A : Around) (outer : List Env) (s : Shared) (H : Hp) (E : XK) : Cx := { cxOf CX0 P w K mg base N qual scope f cd A outer s H E with calm := false }
theorem inv_startW {N ps : List Str} {qual : Str} {scope : Scope} {f : Addr} {cd : Value} {A : Around} {outer : List Env} {s s1 : Shared} {H : Hp} {E : XK} {us : List Value} {vs : List V} (S : FnScope N ps scope) (e0 : Env0 P w K mg base A outer s H) (hl : vs.length = ps.length) (r : Vals vs us)
    (x : InCallC s s.heap.objs.size (bindL (envOfC qual scope s.heap.objs.size f cd).kindOf (ps.zip us) fun _ => none) (cellsFrom (s.heap.objs.size + 1) scope.names []) (bindC (envOfC qual scope s.heap.objs.size f cd).kindOf (ps.zip us) fun _ => none) s1) : Inv (cxW P w K mg base N qual scope f cd A outer s H E) [] (L2.start N vs) H s1 := by
  have e1 : Env0 P w K mg base { A with handled := none } outer s H := ⟨e0.frames, e0.mod, e0.bs, e0.bsz, e0.funs, e0.frf, e0.hok, e0.bare⟩
  have J := inv_start (CX := CX0) (E := E) S rfl e1 hl r x
  exact ⟨{ J.ok with hd := fun z => Bool.noConfusion (show false = true from z), frames := Around.frames_deeper e0.frames }, J.os, J.bare, J.base, J.loc, J.cell, J.free, J.freeC, J.pin, J.hok, J.len⟩
theorem fn_ofW {k : Nat} {f : Addr} {name qual : Str} {params : Arguments} {body : List Stmt} {scope : Scope} {dV kV doc pm cdv ct oc : Value} {an od : Option Addr} {osl : Array (Option Value)} {N ps : List Str} {sp : Sp} (lk : K.lookup f = some ⟨oc, od, .func (PySem.W.fnOf name qual params body scope dV kV doc pm an cdv ct), osl⟩)
    (hcd : PySem.W.codeIn K cdv qual = true) (S : FnScope N ps scope) (ln : ∀ vs H Q E, sp vs H Q E → vs.length = ps.length)
    (hbody : ∀ (A : Around) (outer : List Env) (s : Shared) (H : Hp) (vs : List V) (Q : VK) (E : XK), Rm k (A.deeper (envOfC qual scope s.heap.objs.size f cdv)) → sp vs H Q E → ∃ t, PSs (cxW P w K mg base N qual scope f cdv A outer s H E) body t ∧ t { nx := fun _ H' => Q .non H', rt := Q } (L2.start N vs) H) :
    FnW P w K mg base (k + 1) f (PySem.W.fnOf name qual params body scope dV kV doc pm an cdv ct) ps sp := by
  refine ⟨ln, fun A outer s H args us vs Q E hr e0 hb r hsp => ?_⟩
  have KX : K.In s.heap := e0.mod.kin.keeps fun b o e => (e0.bs b o e).1
  have hkind : ∀ y ∈ ps.zip us, scope.names.lookup y.1 = some .local ∨ (scope.names.lookup y.1 = some .cell ∧ ((cellsFrom (s.heap.objs.size + 1) scope.names []).lookup y.1).isSome = true) := fun ⟨n, v⟩ hy => (S.par n (List.of_mem_zip hy).1).elim .inl fun q => .inr ⟨q, PySem.W.cellsFrom_some _ _ _ (.inl q)⟩
  refine codeAny_call_function (by have := hr.rm.1; omega) (KX _ _ lk) rfl S.co S.gen rfl (PySem.W.codeRec_of KX hcd) (hb _ _ _ _ (wpAny_newFunctionEnv_cells S.kind hkind fun env he s1 x => ?_))
  subst he
  refine ⟨(e0.mod.nolimit.keeps fun b o e => (e0.bs b o e).1).keeps x.toInCall.keep, codeAny_func ?_⟩
  obtain ⟨t, ht, hq⟩ := hbody A outer s H vs Q E (hr.deep _) hsp
  refine wpAny_mono (ht.run [] s1 (L2.start N vs) H _ (inv_startW S e0 (ln _ _ _ _ hsp) r x) hq) (fun fl s' hs => ?_) fun e s' hs => hs
  cases fl with
  | ret u => obtain ⟨v, σ', H', J, rv, q⟩ := hs; exact ⟨v, H', J.os, J.bare, J.base, J.hok, rv, q⟩
  | next => obtain ⟨σ', H', J, q⟩ := hs; exact ⟨.non, H', J.os, J.bare, J.base, J.hok, rfl, q⟩
  | brk => obtain ⟨_, _, _, q⟩ := hs; exact q.elim
  | cont => obtain ⟨_, _, _, q⟩ := hs; exact q.elim
theorem fun_okW {x qual : Str} {st : Stmt} {f : Addr} {fd : FuncData} {N ps : List Str} {k : Nat} {sp : Sp} (F : Fun K x qual st f fd) (S : FnScope N ps (defScope st)) (ln : ∀ vs H Q E, sp vs H Q E → vs.length = ps.length)
    (hbody : ∀ (cdv : Value) (A : Around) (outer : List Env) (s : Shared) (H : Hp) (vs : List V) (Q : VK) (E : XK), Rm k (A.deeper (envOfC qual (defScope st) s.heap.objs.size f cdv)) → sp vs H Q E → ∃ t, PSs (cxW P w K mg base N qual (defScope st) f cdv A outer s H E).nox (defBody st) t ∧ t { nx := fun _ H' => Q .non H', rt := Q } (L2.start N vs) H) : FnW P w K mg base (k + 1) f fd ps sp := by
  obtain ⟨oc, od, kV, doc, pm, an, cdv, ct, osl, rfl, lk, hcd⟩ := F.ex
  refine fn_ofW lk hcd S ln fun A outer s H vs Q E hr hsp => ?_
  obtain ⟨t, h, q⟩ := hbody cdv A outer s H vs Q E hr hsp
  exact ⟨t, h.nox, q⟩
/-- a def that a suite may call -/
structure CalW (P : Program) (w : World) (K : PySem.W.Frag) (mg : Str → Option Value) (base : Heap) (k : Nat) (x : Str) (sp : Sp) : Prop where
  ex : ∃ (f : Addr) (fd : FuncData) (ps : List Str), FnW P w K mg base k f fd ps sp ∧ mg x = some (.ref f) ∧ PySem.W.keepIn K (.ref f) = true ∧ Binds K fd ps []
end
section
variable {X : Cx} {k j : Nat} {x : Str} {sp : Sp} {p pos : Pos} {e : Expr} {es : List Expr} {t : TA}
theorem pe_cW (c : CalW X.prog X.w X.K X.mg X.base k x sp) (hr : Rm j X.A) (hk : k ≤ j) (hg : Gl X x) (ha : PA X (e :: es) t) (hdb : (x == ("__debug__" : Str)) = false := by decide) (he : starEach (e :: es) X.env = (false, eval e X.env) :: starEach es X.env := by rfl) (hpl : (backTo pos (starEach es X.env)).any (·.1) = false := by rfl) :
    PE X (.Call (.Name x p) (e :: es) [] pos) (tCall sp [] E0 t) := by
  obtain ⟨f, fd, ps, F, hm, hkp, hb⟩ := c.ex
  refine ⟨fun pins s σ H Q I h => wpAny_Call_Name_kw (ld_glob I hg hm (PySem.W.callWith_K (h₀ := X.base) I.ok.mod.kin hkp (thn (ha.run pos pins s σ H _ I h) fun us s1 ⟨vs, H1, I1, r, q⟩ => ⟨I1.kIn, ?_⟩) he hpl) hdb)⟩
  have q : sp (vs ++ []) H1 Q E0 := q
  rw [List.append_nil] at q
  have b := hb s1 us I1.kIn (by rw [List.append_nil, ← r.length]; exact F.ln _ _ _ _ q)
  rw [List.append_nil] at b
  refine wpAny_call (codeAny_mono (F.go X.A X.stack s1 H1 ⟨us, []⟩ us vs Q E0 (hr.mono hk) I1.env0 b r q) fun r s' hq => ?_)
  cases r with
  | error e => exact hq.elim
  | ok fl => cases fl with
    | ret u => exact I1.after hq
    | _ => exact False.elim hq
end
theorem z_try1 {W : Wd} {E : XS} {i k0 : Nat} {cv : Value} {tb : WX → TS} {ts : Addr → Value → Option Addr → TS} {bb : BSt} {bs : Addr → Addr → BSt} {Wout : WX} (hks : ∀ k ∈ [k0], (∃ f, xcN k = some f) ∧ PySem.W.exmOne W.K (.ref (W.ca k)) cv = some true) (hb : ∀ Wx : WX, BStm W (fun σ cls d H => Wx cls d σ H) (tb Wx) bb)
    (hs : ∀ a dd, BStm W E (ts a (.ref (W.ca k0)) (some dd)) (bs a dd)) : BStm W E (fun D σ H => tb (wAs W.K cv i ts Wout D) D σ H) (zTry i [k0] bb fun _ => bs) :=
  z_try hks hb fun k hk a dd => by
    obtain rfl := List.mem_singleton.mp hk
    exact hs a dd
/-- a datum as it stands now, cells opened, so many deep -/
def vwD : Nat → Sto → Dat → Dat
  | 0, _, d => d
  | n + 1, M, .cell a => match M a with
    | some (.lst xs) => .lst (xs.map (vwD n M))
    | some (.obj k ds) => if ds.length = (clsN k).length then .obj k (ds.map (vwD n M)) else .cell a
    | some (.dK kvs) => .dK (kvs.map fun p => (p.1, vwD n M p.2))
    | _ => .cell a
  | _ + 1, _, d => d
def vwS (n : Nat) (M : Sto) : Sl → Sl
  | .d x => .d (vwD n M x)
  | s => s
def Pls (F : Addr → Prop) (M : Sto) : Addr → Prop := fun a => F a ∨ M a ≠ none
def Mns (F : Addr → Prop) (M : Sto) : Addr → Prop := fun a => F a ∧ M a = none
mutual
/-- flat data and tuples of it -/
def ftD : Dat → Bool
  | .non => true
  | .bl _ => true
  | .int _ => true
  | .str _ => true
  | .tup xs => ftAll xs
  | _ => false
def ftAll : List Dat → Bool
  | [] => true
  | x :: xs => ftD x && ftAll xs
end
theorem ftAll_of : ∀ {xs : List Dat}, (∀ x ∈ xs, ftD x = true) → ftAll xs = true
  | [], _ => rfl
  | x :: xs, h => by
    show (ftD x && ftAll xs) = true
    rw [h x List.mem_cons_self, ftAll_of fun y hy => h y (List.mem_cons_of_mem _ hy)]
    rfl
section
variable {W : Wd} {F F' : Addr → Prop} {H H' : Hp} {M : Sto}
theorem sub_pls : Sub F H (Pls F M) H := fun a f => ⟨.inl f, rfl⟩
theorem SoOk.pls (ok : SoOk W F H M) : Okk W (Pls F M) H := ⟨fun a f => by
    rcases f with f | f
    · exact ok.ok.tr a f
    · exact ok.al f, fun p c e => by
    obtain ⟨h1, h2, h3⟩ := ok.ok.po p c e
    have no : ∀ a, (a = p ∨ a = c) → M a = none := fun a ha => by
      cases z : M a with
      | none => rfl
      | some cc =>
        have := (ok.at_ a cc z).2.1 p c e
        rcases ha with ha | ha
        · exact absurd ha this.1
        · exact absurd ha this.2
    exact ⟨h1, fun f => f.elim h2 fun f => f (no p (.inl rfl)), fun f => f.elim h3 fun f => f (no c (.inr rfl))⟩⟩
theorem RvAll.vw {g : Dat → Dat} (k : ∀ v d, Rv W F H v d → Rv W F' H v (g d)) : ∀ {vs : List V} {ds : List Dat}, RvAll W F H vs ds → RvAll W F' H vs (ds.map g)
  | _, _, .nil => .nil
  | _, _, .cons a r => .cons (k _ _ a) (RvAll.vw k r)
theorem RvFs.vw {g : Dat → Dat} (k : ∀ v d, Rv W F H v d → Rv W F' H v (g d)) : ∀ {fs : List (Str × V)} {ks : List Str} {ds : List Dat}, RvFs W F H fs ks ds → RvFs W F' H fs ks (ds.map g)
  | _, _, _, .nil => .nil
  | _, _, _, .cons e a r => .cons e (k _ _ a) (RvFs.vw k r)
theorem RvKv.vw {g : Dat → Dat} (k : ∀ v d, Rv W F H v d → Rv W F' H v (g d)) : ∀ {us : List (Key × V)} {kvs : List (Key × Dat)}, RvKv W F H us kvs → RvKv W F' H us (kvs.map fun p => (p.1, g p.2))
  | _, _, .nil => .nil
  | _, _, .cons a r => .cons (k _ _ a) (RvKv.vw k r)
theorem vw_ok (ok : SoOk W F H M) : ∀ (n : Nat) (v : V) (d : Dat), Rv W F H v d → Rv W (Pls F M) H v (vwD n M d)
  | 0, v, d, r => r.sub sub_pls
  | n + 1, v, d, r => by
    cases d with
    | cell a =>
      have e := rv_cell r
      subst e
      show Rv W (Pls F M) H (.ref a) (match M a with
        | some (.lst xs) => .lst (xs.map (vwD n M))
        | some (.obj k ds) => if ds.length = (clsN k).length then .obj k (ds.map (vwD n M)) else .cell a
        | some (.dK kvs) => .dK (kvs.map fun p => (p.1, vwD n M p.2))
        | _ => .cell a)
      cases e : M a with
      | none => exact .cell a
      | some c =>
        have pa : Pls F M a := .inr (by rw [e]; exact fun z => by cases z)
        cases c with
        | lst xs =>
          obtain ⟨_, _, vs, h, r⟩ := ok.at_ a _ e
          exact .lst pa h (r.vw (vw_ok ok n))
        | obj k ds =>
          obtain ⟨_, _, dx, fs, h, _, r, no⟩ := ok.at_ a _ e
          show Rv W (Pls F M) H (.ref a) (if ds.length = (clsN k).length then .obj k (ds.map (vwD n M)) else .cell a)
          by_cases z : ds.length = (clsN k).length
          · rw [if_pos z]
            rw [z, List.take_length] at r no
            exact .obj pa h (r.vw (vw_ok ok n)) no
          · rw [if_neg z]
            exact .cell a
        | dK kvs =>
          obtain ⟨_, _, us, h, r⟩ := ok.at_ a _ e
          exact .dK pa h (r.vw (vw_ok ok n))
        | xd _ _ => exact .cell a
    | _ => exact r.sub sub_pls
mutual
theorem Rv.back (k : ∀ a vs, FzT W F H a vs → F' a) : ∀ {v : V} {d : Dat}, Rv W F H v d → ftD d = true → Rv W F' H v d
  | _, _, .non, _ => .non
  | _, _, .bl b, _ => .bl b
  | _, _, .int i, _ => .int i
  | _, _, .str x, _ => .str x
  | _, _, .tup h r, t => .tup ⟨k _ _ h, h.2⟩ (RvAll.back k r t)
  | _, _, .pool _, t => nomatch t
  | _, _, .lst _ _ _, t => nomatch t
  | _, _, .obj _ _ _ _, t => nomatch t
  | _, _, .dK _ _ _, t => nomatch t
  | _, _, .cell _, t => nomatch t
theorem RvAll.back (k : ∀ a vs, FzT W F H a vs → F' a) : ∀ {vs : List V} {ds : List Dat}, RvAll W F H vs ds → ftAll ds = true → RvAll W F' H vs ds
  | _, _, .nil, _ => .nil
  | _, _, .cons (d := d) (ds := ds) a r, t => by
    have t : (ftD d && ftAll ds) = true := t
    rw [Bool.and_eq_true] at t
    exact .cons (Rv.back k a t.1) (RvAll.back k r t.2)
end
theorem CeOk.noT {a : Addr} {vs : List V} {o : HO} (e : H a = some o) (t : TpO o vs) : ∀ {c : Ce}, CeOk W F H a c → False := fun {c} h => by
  obtain ⟨ob, _, rfl⟩ := t
  cases c with
  | lst xs =>
    obtain ⟨_, h, _⟩ := h
    rw [e] at h
    cases h
  | obj k ds =>
    obtain ⟨_, _, h, _⟩ := h
    rw [e] at h
    cases h
  | dK kvs =>
    obtain ⟨_, h, _⟩ := h
    rw [e] at h
    cases h
  | xd k ds =>
    obtain ⟨_, _, _, _, h, _⟩ := h
    rw [e] at h
    cases h
/-- behind what only looked -/
theorem Ext.vw (ok : SoOk W F H M) (x : Ext W (Pls F M) H F' H') : Ex2 W F H M (Mns F' M) H' M := by
  have sb : Sub F H (Mns F' M) H' := fun a f => ⟨⟨x.up a (.inl f), ok.nf f⟩, (x.sub ok.pls a (.inl f)).2⟩
  refine ⟨fun a f => (sb a f).1, fun a f => ?_, fun a o e n _ => x.kp a o e n, fun a h z => h (x.there ok.pls z), fun a h => .inl h, ⟨fun a f => x.ok.tr a f.1, fun p c e => ?_⟩, fun a c e => ?_⟩
  · rcases x.dn a f.1 with z | z
    · rcases z with z | z
      · exact .inl z
      · exact absurd f.2 z
    · exact .inr (.inl z)
  · obtain ⟨h1, h2, h3⟩ := x.ok.po p c e
    exact ⟨h1, fun f => h2 f.1, fun f => h3 f.1⟩
  · obtain ⟨_, h2, h3⟩ := ok.at_ a c e
    refine ⟨fun f => (by rw [f.2] at e; cases e), h2, h3.sub sb ?_⟩
    cases e2 : H a with
    | none => exact absurd e2 h3.there
    | some o => exact x.kp a o e2 h2.np
theorem Ext.vwR (ok : SoOk W F H M) (x : Ext W (Pls F M) H F' H') : ∀ a vs, FzT W F' H' a vs → Mns F' M a := fun a vs ⟨f, o, e, t⟩ => ⟨f, by
  cases z : M a with
  | none => rfl
  | some c =>
    obtain ⟨_, h2, h3⟩ := (Ext.vw ok x).ok.at_ a c z
    exact (h3.noT e t).elim⟩
theorem Mt.vw {H0 : Hp} {σ : L2.St} {env : List Sl} (ok : SoOk W F H M) (n : Nat) (m : Mt2 W H0 F H M σ env) : Mt W (mask H0 M) (Pls F M) H σ (env.map (vwS n M)) := by
  have inv : ∀ (i : Nat) (s : Sl), (env.map (vwS n M))[i]? = some s → ∃ s0, env[i]? = some s0 ∧ vwS n M s0 = s := fun i s e => by
    rw [List.getElem?_map] at e
    cases z : env[i]? with
    | none =>
      rw [z] at e
      cases e
    | some s0 =>
      rw [z] at e
      exact ⟨s0, rfl, by injection e⟩
  refine ⟨by rw [List.length_map]; exact m.ln, fun i s e => ?_, fun i j xs ys a e1 e2 => ?_⟩
  · obtain ⟨s0, e0, rfl⟩ := inv i s e
    obtain ⟨ov, e1, r⟩ := m.at_ i s0 e0
    refine ⟨ov, e1, ?_⟩
    cases s0 with
    | u => exact trivial
    | d y =>
      obtain ⟨v, e, r⟩ := r
      exact ⟨v, e, vw_ok ok n v y r⟩
    | o xs =>
      obtain ⟨a, vs, e, nf, n0, h, r, np⟩ := r
      exact ⟨a, vs, e, fun f => f.elim nf fun f => f (mask_none.mp n0).1, n0, h, r.sub sub_pls, np⟩
  · obtain ⟨s1, f1, g1⟩ := inv i _ e1
    obtain ⟨s2, f2, g2⟩ := inv j _ e2
    cases s1 with
    | o _ =>
      cases s2 with
      | o _ => exact m.own i j _ _ a f1 f2
      | u => cases g2
      | d _ => cases g2
    | u => cases g1
    | d _ => cases g1
end
def upV (n : Nat) (ae : AEx) : BEx := fun env M _ P => ae (env.map (vwS n M)) fun d => ftD d = true ∧ P d M
def upVF (n : Nat) (ae : AFr) : BFr := fun env M _ P => ae (env.map (vwS n M)) fun ds => ftAll ds = true ∧ P ds M
def upVT (n : Nat) (at_ : ATs) : BTs := fun env M _ P => at_ (env.map (vwS n M)) fun b => P b M
section
variable {W : Wd} {H0 : Hp} {E : XS} {te : TE} {ae : AEx} {tt : TT}
theorem b_upV (n : Nat) (h : ∀ H0, AExp W H0 te ae) : BExp W H0 E te (upV n ae) := ⟨fun σ env F H M Q P X c q k => (h _).run σ _ (Pls F M) H Q _ c.st.pls (c.m.vw c.st n) q fun d F' H' v p x r => k d (Mns F' M) H' v M p.2 (Ext.vw c.st x) (Rv.back (Ext.vwR c.st x) r p.1)⟩
theorem b_upVT (n : Nat) {at_ : ATs} (h : ∀ H0, ATst W H0 tt at_) : BTst W H0 E tt (upVT n at_) := ⟨fun σ env F H M Q P X c q k => (h _).run σ _ (Pls F M) H Q _ c.st.pls (c.m.vw c.st n) q fun b F' H' p x => k b (Mns F' M) H' M p (Ext.vw c.st x)⟩
theorem b_upVF (n : Nat) {af : AFr} (h : ∀ H0, AFrs W H0 te af) : BFrs W H0 E te (upVF n af) := ⟨fun σ env F H M Q P X c q k => (h _).run σ _ (Pls F M) H Q _ c.st.pls (c.m.vw c.st n) q fun ds F' H' a vs p x nn nf ha r => k ds (Mns F' M) H' a vs M p.2 (Ext.vw c.st x) nn (fun f => nf f.1) (c.st.new nn) ha (RvAll.back (Ext.vwR c.st x) r p.1)⟩
end
def dkQ (o : Option Ce) (P : List (Key × Dat) → Prop) : Prop := match o with
  | some (.dK kvs) => P kvs
  | _ => False
def ksQ : Dat → (Key → Prop) → Prop
  | .str s, P => P (.inr s)
  | .int i, P => P (.inl i)
  | _, _ => False
theorem ksQ_at {W : Wd} {F : Addr → Prop} {H : Hp} {v : V} {d : Dat} {P : Key → Prop} (h : ksQ d P) (r : Rv W F H v d) : ∃ k, v = kV k ∧ P k := by
  cases r with
  | str s => exact ⟨.inr s, rfl, h⟩
  | int i => exact ⟨.inl i, rfl, h⟩
  | _ => exact (show False from h).elim
def putD (kvs : List (Key × Dat)) (k : Key) (d : Dat) : List (Key × Dat) := if (kvs.any fun kv => decide (kv.1 = k)) = true then kvs.map (fun kv => if kv.1 = k then (kv.1, d) else kv) else kvs ++ [(k, d)]
theorem RvKv.len {W : Wd} {F : Addr → Prop} {H : Hp} : ∀ {us : List (Key × V)} {kvs : List (Key × Dat)}, RvKv W F H us kvs → us.length = kvs.length
  | _, _, .nil => rfl
  | _, _, .cons _ r => congrArg (· + 1) (RvKv.len r)
theorem RvKv.any {W : Wd} {F : Addr → Prop} {H : Hp} {k : Key} : ∀ {us : List (Key × V)} {kvs : List (Key × Dat)}, RvKv W F H us kvs → (us.any fun kv => decide (kv.1 = k)) = (kvs.any fun kv => decide (kv.1 = k))
  | _, _, .nil => rfl
  | _, _, .cons (k := k') _ r => by
    rw [List.any_cons, List.any_cons, RvKv.any r]
theorem RvKv.mapP {W : Wd} {F : Addr → Prop} {H : Hp} {k : Key} {v : V} {d : Dat} (a : Rv W F H v d) : ∀ {us : List (Key × V)} {kvs : List (Key × Dat)}, RvKv W F H us kvs → RvKv W F H (us.map fun kv => if kv.1 = k then (kv.1, v) else kv) (kvs.map fun kv => if kv.1 = k then (kv.1, d) else kv)
  | _, _, .nil => .nil
  | _, _, .cons (k := k') b r => by
    rw [List.map_cons, List.map_cons]
    by_cases z : k' = k
    · rw [if_pos z, if_pos z]
      exact .cons a (RvKv.mapP a r)
    · rw [if_neg z, if_neg z]
      exact .cons b (RvKv.mapP a r)
theorem RvKv.snoc {W : Wd} {F : Addr → Prop} {H : Hp} {k : Key} {v : V} {d : Dat} (a : Rv W F H v d) : ∀ {us : List (Key × V)} {kvs : List (Key × Dat)}, RvKv W F H us kvs → RvKv W F H (us ++ [(k, v)]) (kvs ++ [(k, d)])
  | _, _, .nil => .cons a .nil
  | _, _, .cons b r => .cons b (RvKv.snoc a r)
theorem RvKv.put {W : Wd} {F : Addr → Prop} {H : Hp} {k : Key} {v : V} {d : Dat} {us : List (Key × V)} {kvs : List (Key × Dat)} (r : RvKv W F H us kvs) (a : Rv W F H v d) : RvKv W F H (putK us k v) (putD kvs k d) := by
  unfold putK putD
  rw [r.any]
  by_cases z : (kvs.any fun kv => decide (kv.1 = k)) = true
  · rw [if_pos z, if_pos z]
    exact r.mapP a
  · rw [if_neg z, if_neg z]
    exact r.snoc a
def mergeD (kvs more : List (Key × Dat)) : List (Key × Dat) := more.foldl (fun acc kv => putD acc kv.1 kv.2) kvs
theorem RvKv.merge {W : Wd} {F : Addr → Prop} {H : Hp} : ∀ {us us' : List (Key × V)} {kvs kvs' : List (Key × Dat)}, RvKv W F H us' kvs' → RvKv W F H us kvs → RvKv W F H (mergeK us us') (mergeD kvs kvs')
  | _, _, _, _, .nil, q => q
  | _, _, _, _, .cons (k := k) a r, q => RvKv.merge (us := putK _ k _) (kvs := putD _ k _) r (q.put a)
/-- d[k], d a cell -/
def bDget (eo ek : BEx) : BEx := fun env M X P => eo env M X fun x M1 => ek env M1 X fun y M2 => ceQ x fun a => ksQ y fun k => dkQ (M2 a) fun kvs => oQ (dgetD kvs k) fun d => P d M2
/-- d[k] = v -/
def zPutD (ev eo ek : BEx) : BSt := fun D env M => ev env M (D.ex env) fun d M1 => eo env M1 (D.ex env) fun x M2 => ek env M2 (D.ex env) fun y M3 => ceQ x fun a => ksQ y fun k => dkQ (M3 a) fun kvs => kvs.length < 1000 ∧ D.nx env (M3.put a (some (.dK (putD kvs k d))))
abbrev BPf := List Sl → Sto → XD → (List (Key × Dat) → Sto → Prop) → Prop
def bPn : BPf := fun _ M _ P => P [] M
def bPc (k : Key) (ea : BEx) (er : BPf) : BPf := fun env M X P => ea env M X fun d M1 => er env M1 X fun ds M2 => P ((k, d) :: ds) M2
/-- {k: e, ..}: from now on a cell -/
def bDisp (bp : BPf) : BEx := fun env M X P => ∀ p, M p = none → bp env (M.put p (some (.dK []))) X fun kds M2 => dkQ (M2 p) fun e => e = [] ∧ kds.length ≤ 15 ∧ P (.cell p) (M2.put p (some (.dK (mergeD [] kds))))
def bMethX (c : Nat) (bsp : BSp) (eo : BEx) (ba : BFr) : BEx := fun env M X P => eo env M X fun x M1 => ceQ x fun a => coQ (M1 a) fun k _ => k = c ∧ ba env M1 X fun ds M2 => bsp (.cell a :: ds) M2 X P
section
variable {K : PySem.W.Frag} {ca : Nat → Addr} {po : Option (Addr × Addr)} {H0 : Hp} {E : XS}
theorem b_methX {n c : Nat} {m : Str} {to : TE} {t : TA} {eo : BEx} {ba : BFr} {bsp : BSp} (hm : m ∉ clsN c) (ho : BExp ⟨K, ca, po⟩ H0 E to eo) (h : BArg ⟨K, ca, po⟩ H0 E n t ba) : BExp ⟨K, ca, po⟩ H0 E (tMethS (ca c) m (toSp2 K ca bsp) E to t) (bMethX c bsp eo ba) :=
  ⟨fun σ env F H M Q P X cf q k => ho.run σ env F H M _ _ X cf q fun d F1 H1 v M1 p1 x1 r1 => by
    cases d with
    | cell a =>
      have e := rv_cell (show Rv ⟨K, ca, po⟩ F1 H1 v (.cell a) from r1)
      subst e
      obtain ⟨kk, ds0, hM, rfl, p3⟩ := coQ_at p1
      obtain ⟨nf, np, dx, fs, hA, lf, rf, no⟩ := x1.ok.at_ a _ hM
      refine ⟨a, dx, fs, rfl, hA, no m fun z => hm (List.mem_of_mem_take z), ?_⟩
      exact h.run σ env F1 H1 M1 _ _ X (cf.step x1) p3 fun ds F2 H2 vs M2 p2 x2 r2 _ =>
        ⟨po, F2, M2, .cell a :: ds, P, X, x2.ok, .cons (.cell a) r2, p2, ((cf.step x1).step x2).x, fun d F' H' M' v p x r => k d F' H' v M' p ((x1.trans x2).trans x) r⟩
    | _ => exact (show False from p1).elim⟩
end
structure MetX (P : Program) (w : World) (K : PySem.W.Frag) (mg : Str → Option Value) (base : Heap) (k : Nat) (C : Addr) (m : Str) (sp : Sp) : Prop where
  ex : ∃ (f : Addr) (fd : FuncData) (ps : List Str), Cls K C ∧ Meth K C m f ∧ FnOk P w K mg base (L2.CX P w) k f fd ps sp ∧ Binds K fd ps []
theorem pe_mX {X : Cx} {m : Str} {C : Addr} {sp : Sp} {W : WX} {o e : Expr} {es : List Expr} {ta : TE} {t : TA} {pos apos : Pos} {k n : Nat} {pl : Sem Bool} (c : MetX X.prog X.w X.K X.mg X.base n C m sp) (tk : Takes X W) (hr : Room k X.A) (hk : n ≤ k) (he : PE X o ta) (ha : PA X (e :: es) t)
    (hst : starEach (e :: es) X.env = (false, eval e X.env) :: starEach es X.env := by rfl) (hpn : (backTo pos (starEach es X.env)).any (·.1) = false := by rfl)
    (ht : eval (.Call (.Attribute o m apos) (e :: es) [] pos) X.env = (do let ov ← eval o X.env; standAt apos.atName; let (f, first) ← holding [ov] (getMethod ov m pl); callWith pos f first (backTo pos (starEach (e :: es) X.env)) (backToKw pos (keywordEach [] X.env))) := by rfl) :
    PE X (.Call (.Attribute o m apos) (e :: es) [] pos) (tMethS C m sp (WE W) ta t) := by
  obtain ⟨f, fd, ps, cl, hm, F, hb⟩ := c.ex
  exact pe_methS (pl := pl) he cl hm F (hr.mono hk) hb (fun σ => passAt tk σ) ha hst hpn ht
def bSeq (q : Dat → (List Dat → Prop) → Prop) (ea : BEx) : BFr := fun env M X P => ea env M X fun x M1 => q x fun ds => P ds M1
section
variable {W : Wd} {H0 : Hp} {E : XS} {ta : TE} {ea : BEx}
theorem b_itT (ha : BExp W H0 E ta ea) : BIter W H0 E (iTup W.K ta) (bSeq tQ ea) := ⟨fun σ env F H M R P X c q k => ha.run σ env F H M _ _ X c q fun d F1 H1 v M1 p1 x1 r1 => by
  cases d with
  | tup ds =>
    cases r1 with
    | tup h r => exact ⟨_, rfl, ⟨_, h.sq⟩, k _ F1 H1 _ M1 p1 x1 (it_tup h r)⟩
  | _ => exact (show False from p1).elim⟩
end
theorem RvKv.dno {W : Wd} {F : Addr → Prop} {H : Hp} {k : Key} : ∀ {kvs : List (Key × V)} {kds : List (Key × Dat)}, RvKv W F H kvs kds → dgetD kds k = none → valV kvs k = none
  | _, _, .nil, _ => rfl
  | _, _, .cons (k := k') (v := v) (kvs := kvs) (d := d') (kds := kds) a r, e => by
    by_cases h : k' = k
    · have e' : dgetD ((k', d') :: kds) k = some d' := by simp [dgetD, List.find?_cons, h]
      rw [e'] at e
      cases e
    · have e' : dgetD ((k', d') :: kds) k = dgetD kds k := by simp [dgetD, List.find?_cons, h]
      rw [e'] at e
      rw [valV_neg (p := (k', v)) h]
      exact r.dno e
def dDQ : Dat → (List (Key × Dat) → Prop) → Prop
  | .dK kds, P => P kds
  | _, _ => False
def stQ : Dat → (Str → Prop) → Prop
  | .str s, P => P s
  | _, _ => False
def aDget2 (ea eb ec : AEx) : AEx := fun env P => ea env fun x => dDQ x fun kds => eb env fun y => ec env fun z => stQ y fun s => P ((dgetD kds (.inr s)).getD z)
theorem pe_gstr {X : Cx} {x s : Str} {pos : Pos} (h : ∃ t, X.mg x = some (.str s t)) (hg : Gl X x := by rfl) (hd : (x == ("__debug__" : Str)) = false := by decide) : PE X (.Name x pos) (tC (.str s)) := by
  obtain ⟨t, h⟩ := h
  exact pe_glob hg h ⟨_, rfl⟩ (hd := hd)
def kMin2 : Dat → Dat → (Dat → Prop) → Prop
  | .int i, .int j, P => P (.int (if j < i then j else i))
  | _, _, _ => False
theorem rok_min2 {W : Wd} : ROk W Rv Rv Rv (fun x y H Q => ∃ i j, [x, y] = [V.int i, .int j] ∧ Q (.int (if j < i then j else i)) H) kMin2 := fun F H x y d e Q P ok r1 r2 q k => by
  cases r1 <;> cases r2 <;> first | exact q.elim | exact ⟨_, _, rfl, k _ F H _ q (.refl ok) (.int _)⟩
theorem kMin2_i {i j : Int} {P : Dat → Prop} : kMin2 (.int i) (.int j) P = P (.int (if j < i then j else i)) := rfl
/-- Kind, Request, Issuer -/
structure KdT (K : PySem.W.Frag) (C : Addr) : Prop where
  cl : Cls K C
  n_name : NoAttr K C "name"
  n_fields : NoAttr K C "fields"
structure RqT (K : PySem.W.Frag) (C : Addr) : Prop where
  cl : Cls K C
  n_kind : NoAttr K C "kind"
  n_element : NoAttr K C "element"
  n_first : NoAttr K C "first"
  n_drawn : NoAttr K C "drawn"
  n_state : NoAttr K C "state"
structure IsT (K : PySem.W.Frag) (C : Addr) : Prop where
  cl : Cls K C
  n_name : NoAttr K C "name"
  n_group : NoAttr K C "group"
  n_kinds : NoAttr K C "kinds"
  n_book : NoAttr K C "book"
  n__requests : NoAttr K C "_requests"
/-- a policy's fields -/
structure PoT (K : PySem.W.Frag) (C : Addr) : Prop where
  cl : Cls K C
  n_cards : NoAttr K C "cards"
  n_conditions : NoAttr K C "conditions"
/-- a question's fields -/
structure QuT (K : PySem.W.Frag) (C : Addr) : Prop where
  cl : Cls K C
  n_group : NoAttr K C "group"
  n_kinds : NoAttr K C "kinds"
  n_policy : NoAttr K C "policy"
  n_rows : NoAttr K C "rows"
structure GlI (mg : Str → Option Value) : Prop where
  ASKED : ∃ t, mg "ASKED" = some (.str "asked" t)
  CHALLENGED : ∃ t, mg "CHALLENGED" = some (.str "challenged" t)
  GRANTED : ∃ t, mg "GRANTED" = some (.str "granted" t)
  REFUSED : ∃ t, mg "REFUSED" = some (.str "refused" t)
section
variable {n : Nat} {M : Sto} {a : Addr}
theorem vw_obj {k : Nat} {ds : List Dat} (h : M a = some (.obj k ds)) (l : ds.length = (clsN k).length) : vwD (n + 1) M (.cell a) = .obj k (ds.map (vwD n M)) := by
  unfold vwD
  rw [h]
  exact if_pos l
theorem vw_lst {xs : List Dat} (h : M a = some (.lst xs)) : vwD (n + 1) M (.cell a) = .lst (xs.map (vwD n M)) := by
  unfold vwD
  rw [h]
theorem vw_n : vwD n M .non = .non := by cases n <;> rfl
theorem vw_b {b : Bool} : vwD n M (.bl b) = .bl b := by cases n <;> rfl
theorem vw_i {i : Int} : vwD n M (.int i) = .int i := by cases n <;> rfl
theorem vw_s {i : Str} : vwD n M (.str i) = .str i := by cases n <;> rfl
theorem vw_p : vwD n M .pool = .pool := by cases n <;> rfl
theorem vw_l {xs : List Dat} : vwD n M (.lst xs) = .lst xs := by cases n <;> rfl
theorem vw_t {xs : List Dat} : vwD n M (.tup xs) = .tup xs := by cases n <;> rfl
theorem vw_o {k : Nat} {xs : List Dat} : vwD n M (.obj k xs) = .obj k xs := by cases n <;> rfl
theorem vw_d {xs : List (Key × Dat)} : vwD n M (.dK xs) = .dK xs := by cases n <;> rfl
theorem vwS_d {x : Dat} : vwS n M (.d x) = .d (vwD n M x) := rfl
theorem vwS_u : vwS n M .u = .u := rfl
theorem vwS_o {xs : List Dat} : vwS n M (.o xs) = .o xs := rfl
theorem ftD_i {i : Int} : ftD (.int i) = true := rfl
theorem ftD_s {i : Str} : ftD (.str i) = true := rfl
theorem ftD_b {i : Bool} : ftD (.bl i) = true := rfl
theorem ftD_n : ftD .non = true := rfl
theorem ftD_t {xs : List Dat} : ftD (.tup xs) = ftAll xs := rfl
theorem ftAll_n : ftAll [] = true := rfl
theorem ftAll_c {x : Dat} {xs : List Dat} : ftAll (x :: xs) = (ftD x && ftAll xs) := rfl
end
theorem bk_dk {kvs : List (Key × Dat)} {P : List (Key × Dat) → Prop} : dkQ (some (.dK kvs)) P = P kvs := rfl
theorem bk_ks {s : Str} {P : Key → Prop} : ksQ (.str s) P = P (.inr s) := rfl
theorem bk_dd {kvs : List (Key × Dat)} {P : List (Key × Dat) → Prop} : dDQ (.dK kvs) P = P kvs := rfl
theorem bk_st {s : Str} {P : Str → Prop} : stQ (.str s) P = P s := rfl
theorem Sto.comm {M : Sto} {a b : Addr} {c d : Option Ce} (h : a ≠ b) : (M.put a c).put b d = (M.put b d).put a c := by
  funext x
  by_cases hb : x = b
  · subst hb
    rw [Sto.put_s, Sto.put_n (Ne.symm h), Sto.put_s]
  · rw [Sto.put_n hb]
    by_cases ha : x = a
    · subst ha
      rw [Sto.put_s, Sto.put_s]
    · rw [Sto.put_n ha, Sto.put_n ha, Sto.put_n hb]
theorem Sto.pp {M : Sto} {a : Addr} {c d : Option Ce} : (M.put a c).put a d = M.put a d := by
  funext x
  by_cases h : x = a
  · subst h
    rw [Sto.put_s, Sto.put_s]
  · rw [Sto.put_n h, Sto.put_n h, Sto.put_n h]
/-- x.put again, across another cell -/
theorem Sto.pap {M : Sto} {a b : Addr} {c d e : Option Ce} (h : a ≠ b) : ((M.put a c).put b d).put a e = (M.put a e).put b d := by
  rw [Sto.comm h, Sto.pp, Sto.comm (Ne.symm h)]
def kIxS : Dat → Dat → (Dat → Prop) → Prop
  | .str s, .int i, P => s.length ≤ 100000 ∧ ∃ c, atI s.cps.toList i = some c ∧ P (.str ⟨#[c]⟩)
  | _, _, _ => False
theorem rok_ixS {W : Wd} : ROk W Rv Rv Rv rIxS kIxS := fun F H x y d e Q P ok r1 r2 q k => by
  cases r1 with
  | str s =>
    cases r2 with
    | int i =>
      obtain ⟨hl, c, hc, p⟩ := q
      exact ⟨s, i, c, rfl, rfl, Nat.le_of_lt (len_size hl), hc, k _ F H _ p (.refl ok) (.str _)⟩
    | _ => exact (show False from q).elim
  | _ => exact (show False from q).elim
theorem ofS_inj {a b : String} : (Str.ofString a = Str.ofString b) = (a = b) := by
  refine propext ⟨fun h => ?_, fun h => by rw [h]⟩
  rw [Str.ofString_eq_toList, Str.ofString_eq_toList] at h
  injection h with h
  have h : a.toList.map Char.toNat = b.toList.map Char.toNat := by simpa using h
  have inj : ∀ {xs ys : List Char}, xs.map Char.toNat = ys.map Char.toNat → xs = ys := fun {xs} => by
    induction xs with
    | nil =>
      intro ys h
      cases ys with
      | nil => rfl
      | cons y ys => cases h
    | cons x xs ih =>
      intro ys h
      cases ys with
      | nil => cases h
      | cons y ys =>
        rw [List.map_cons, List.map_cons, List.cons.injEq] at h
        rw [ih h.2, Char.toNat_inj.mp h.1]
  exact String.toList_inj.mp (inj h)
theorem kDget_s {kds : List (Key × Dat)} {s : Str} {P : Dat → Prop} : kDget (.dK kds) (.str s) P = oQ (dgetD kds (.inr s)) P := rfl
theorem dg_c {k k' : Key} {d : Dat} {r : List (Key × Dat)} : dgetD ((k', d) :: r) k = if k' = k then some d else dgetD r k := by
  unfold dgetD
  by_cases h : k' = k
  · simp [List.find?_cons, h]
  · simp [List.find?_cons, h]
theorem dg_n {k : Key} : dgetD [] k = none := rfl
theorem kIxS_i {s : Str} {i : Int} {P : Dat → Prop} : kIxS (.str s) (.int i) P = (s.length ≤ 100000 ∧ ∃ c, atI s.cps.toList i = some c ∧ P (.str ⟨#[c]⟩)) := rfl
theorem kInt_bl {b : Bool} {P : Dat → Prop} : kInt (.bl b) P = P (.int (if b = true then 1 else 0)) := rfl
def tListZipF (k1 k2 : Bool) (K : PySem.W.Frag) (ta : TA) : TE := fun σ H Q => ta σ H fun vs H1 => ∃ a b xs ys, vs = [.ref a, .ref b] ∧ SqK k1 K H1 a xs ∧ SqK k2 K H1 b ys ∧
  ∀ H' l (ts : List Addr), Same H1 H' → H1 l = none → H' l = some (.lst (ts.map V.ref)) → (∀ t ∈ ts, H1 t = none) → Paired (fun (t : Addr) (p : V × V) => ∃ o, H' t = some o ∧ TpO o [p.1, p.2]) ts (xs.zip ys) → Q (.ref l) H'
def fzO (h : Heap) (t : Addr) (p : V × V) : HO := .frz ((h.get? t).getD { cls := .none, data := .seq #[] }) (.tup [p.1, p.2])
def putY (h : Heap) : Hp → List Addr → List (V × V) → Hp
  | H, a :: as, p :: ps => putY h (upd H a (fzO h a p)) as ps
  | H, _, _ => H
theorem putY_off {h : Heap} {b : Addr} : ∀ (as : List Addr) (ps : List (V × V)) (H : Hp), b ∉ as → putY h H as ps b = H b
  | [], _, _, _ => rfl
  | _ :: _, [], _, _ => rfl
  | a :: as, p :: ps, H, hn => by
    have h' := not_or.mp (fun q => hn (List.mem_cons.mpr q))
    show putY h (upd H a _) as ps b = H b
    rw [putY_off as ps _ h'.2, upd_ne h'.1]
theorem putY_at {h : Heap} : ∀ (as : List Addr) (ps : List (V × V)) (H : Hp), as.length = ps.length → as.Nodup → Paired (fun (t : Addr) (p : V × V) => putY h H as ps t = some (fzO h t p)) as ps
  | [], [], _, _, _ => .nil
  | [], _ :: _, _, e, _ => by cases e
  | _ :: _, [], _, e, _ => by cases e
  | a :: as, p :: ps, H, e, hn => by
    obtain ⟨n1, n2⟩ := List.nodup_cons.mp hn
    refine .cons ?_ (putY_at as ps (upd H a (fzO h a p)) (Nat.succ.inj e) n2)
    show putY h (upd H a (fzO h a p)) as ps a = _
    rw [putY_off as ps _ n1, upd_same]
theorem pairedM {α β : Type} {F G : α → β → Prop} : ∀ {xs : List α} {ys : List β}, Paired F xs ys → (∀ x ∈ xs, ∀ y, F x y → G x y) → Paired G xs ys
  | _, _, .nil, _ => .nil
  | _, _, .cons r t, h => .cons (h _ List.mem_cons_self _ r) (pairedM t fun x hx => h x (List.mem_cons_of_mem _ hx))
section
variable {X : Cx} {p pz pos cpos : Pos} {e e2 : Expr} {ta : TA}
theorem pe_listZipF (k1 k2 : Bool) {K : PySem.W.Frag} (hK : X.K = K) (hc : X.calm = true) (hg : Gl X "list") (hm : X.mg "list" = none) (hgz : Gl X "zip") (hmz : X.mg "zip" = none) (ha : PA X [e, e2] ta)
    (hs : starEach [e, e2] X.env = (false, eval e X.env) :: starEach [e2] X.env := by rfl) (hpl : (backTo cpos (starEach [e2] X.env)).any (·.1) = false := by rfl)
    (hs2 : starEach [.Call (.Name "zip" pz) [e, e2] [] cpos] X.env = (false, eval (.Call (.Name "zip" pz) [e, e2] [] cpos) X.env) :: starEach [] X.env := by rfl) :
    PE X (.Call (.Name "list" p) [.Call (.Name "zip" pz) [e, e2] [] cpos] [] pos) (tListZipF k1 k2 K ta) := by
  subst hK
  refine ⟨fun pins s σ H Q I h => ?_⟩
  refine wpAny_Call_Name_kw (ld_blt I hg hm (show bootBuiltins "list" = some (.type "list") by decide +kernel) (PyProof.Rows.callWith_type1 ?_ hs2 rfl))
  rw [hs2]; show wpAny _ _ (spliced ((false, eval (.Call (.Name "zip" pz) [e, e2] [] cpos) X.env) :: backTo pos (starEach [] X.env))) _ _ s
  refine Calls.spliced_cons ?_
  refine Call_ (ld_blt I hgz hmz PyProof.Rows.boot_zip (PyProof.Rows.callWith_type1 (thn (ha.run cpos pins s σ H _ I h) fun us s1 hh => ?_) hs hpl))
  obtain ⟨vs, H1, I1, r1, a, b, xs, ys, rfl, qx, qy, q⟩ := hh
  obtain ⟨u1, u2, rfl, ru, rv⟩ := vals2 r1
  cases (show u1 = Value.ref a from ru)
  cases (show u2 = Value.ref b from rv)
  obtain ⟨us, rus, pu, lu⟩ := seqK I1 qx
  obtain ⟨ws, rws, pw, lw⟩ := seqK I1 qy
  have lus := rus.length
  have lws := rws.length
  refine zip_begins2 (bgK k1 a us.toArray) (bgK k2 b ws.toArray) pu pw fun h' hz hTI hTO o1 o2 hsz hk => ?_
  refine Calls.spliced_nil ?_
  have D := PySem.W.ktu_apart s1.heap.objs.size a b pu.lt pw.lt
  have hh : X.A.in1.in1.in1.handled = none := I1.ok.hd hc
  have lo4 : ∀ c, c ∈ [s1.heap.objs.size, a] ∨ c ∈ [s1.heap.objs.size + 1, b] → c < h'.objs.size := fun c hx => by
    have la : a < s1.heap.objs.size := pu.lt
    have lb : b < s1.heap.objs.size := pw.lt
    rw [hsz]
    simp only [List.mem_cons, List.not_mem_nil, or_false] at hx
    rcases hx with (rfl | rfl) | (rfl | rfl)
    · exact Nat.lt_add_of_pos_right (by decide)
    · exact Nat.lt_of_lt_of_le la (Nat.le_add_right _ _)
    · exact Nat.add_lt_add_left (by decide) _
    · exact Nat.lt_of_lt_of_le lb (Nat.le_add_right _ _)
  have ez : (xs.zip ys).length = min us.toArray.size ws.toArray.size := by
    rw [List.length_zip, List.size_toArray, List.size_toArray, lus, lws]
  refine zl_call (s := { s1 with heap := h' }) (sepK D) (drK (prog := X.prog) (w := X.w) k1 hh D.l1i1 us.toArray) (drK (prog := X.prog) (w := X.w) k2 hh D.l2i2 ws.toArray) (by rw [← ez, List.length_zip]; omega) hz hTI ⟨_, _, hTO⟩
    ⟨itK0 o1, pu.at fun o => hk a o⟩ ⟨itK0 o2, pw.at fun o => hk b o⟩ (fun c hx => lo4 c (.inl hx)) (fun c hx => lo4 c (.inr hx)) fun h2 tk acc c as hk2 hS hl hG hacc => ?_
  have kp0 : ∀ c o, s1.heap.get? c = some o → h2.get? c = some o := fun c o ho => by
    have lc : c < s1.heap.objs.size := Heap.lt_size ho
    refine hk2 c o ?_ ?_ ?_ ?_ (hk c o ho)
    · exact Nat.ne_of_lt (Nat.lt_of_lt_of_le lc (Nat.le_add_right _ _))
    · exact Nat.ne_of_lt (Nat.lt_of_lt_of_le lc (Nat.le_add_right _ _))
    · exact Nat.ne_of_lt lc
    · exact Nat.ne_of_lt (Nat.lt_of_lt_of_le lc (Nat.le_add_right _ _))
  have lN : s1.heap.objs.size ≤ h'.objs.size := by
    rw [hsz]
    exact Nat.le_add_right _ _
  have nl : h'.objs.size ∉ as := fun z => Nat.lt_irrefl _ (hG.above _ z)
  have nd : as.Nodup := List.Pairwise.imp (fun {x y} (q : x < y) => Nat.ne_of_lt q) hG.rise
  have hi : ∀ t ∈ as, s1.heap.objs.size ≤ t := fun t ht => Nat.le_trans lN (Nat.le_of_lt (hG.above t ht))
  have fr : ∀ t ∈ as, H1 t = none := fun t ht => I1.hok.fresh (hi t ht)
  have frl : H1 h'.objs.size = none := I1.hok.fresh lN
  have pz := putY_at (h := h2) as (xs.zip ys) (upd H1 h'.objs.size (.lst (as.map V.ref))) (by rw [hl, ez]) nd
  have off : ∀ t, t ∉ as → t ≠ h'.objs.size → putY h2 (upd H1 h'.objs.size (.lst (as.map V.ref))) as (xs.zip ys) t = H1 t := fun t n1 n2 => by rw [putY_off as _ _ n1, upd_ne n2]
  have low : ∀ t o, s1.heap.get? t = some o → t ∉ as ∧ t ≠ h'.objs.size := fun t o ho => ⟨fun z => absurd (Heap.lt_size ho) (Nat.not_lt.mpr (hi t z)), Nat.ne_of_lt (Nat.lt_of_lt_of_le (Heap.lt_size ho) lN)⟩
  have kp : Same H1 (putY h2 (upd H1 h'.objs.size (.lst (as.map V.ref))) as (xs.zip ys)) := fun t o ho => by
    rw [off t (fun z => by rw [fr t z] at ho; cases ho) (fun z => by rw [z, frl] at ho; cases ho)]
    exact ho
  have atl : putY h2 (upd H1 h'.objs.size (.lst (as.map V.ref))) as (xs.zip ys) h'.objs.size = some (.lst (as.map V.ref)) := by rw [putY_off as _ _ nl, upd_same]
  have J : Inv X pins σ (putY h2 (upd H1 h'.objs.size (.lst (as.map V.ref))) as (xs.zip ys)) ⟨h2, s1.gens, s1.drawn, tk, s1.os⟩ := by
    refine I1.call' (ch := []) rfl ⟨fun t o ho _ _ _ => kp0 t o ho, fun t o ho _ _ _ => ⟨o.slots, kp0 t o ho⟩, fun t o ho n _ => ?_, fun t o ho _ => ⟨o, kp0 t o ho⟩, fun t _ ho => kp t _ ho, fun t _ _ ho => kp t _ ho, fun t ps ho => ⟨#[], by rw [kp t _ ho]; simp⟩⟩ (fun t u ho => ?_) I1.bare fun t z => by simp at z
    · obtain ⟨z1, z2⟩ := low t o ho
      rw [off t z1 z2]
      exact n
    · by_cases ht : t ∈ as
      · obtain ⟨j, hj⟩ := List.mem_iff_getElem?.mp ht
        obtain ⟨pr, p1, p2⟩ := paired_at pz hj
        rw [p2] at ho
        cases ho
        obtain ⟨x, y, g1, g2, g3⟩ := hG.pairs j t hj
        obtain ⟨q1, q2⟩ := List.getElem?_zip_eq_some.mp p1
        obtain ⟨u, a1, a2⟩ := rus.get q1
        obtain ⟨v, b1, b2⟩ := rws.get q2
        have ex : x = u := by
          have : us.toArray[j]? = some u := by simpa using a1
          rw [this] at g1
          exact (Option.some.inj g1).symm
        have ey : y = v := by
          have : ws.toArray[j]? = some v := by simpa using b1
          rw [this] at g2
          exact (Option.some.inj g2).symm
        subst ex ey
        show ObjOk X.prog X.w _ _ t (.frz ((h2.get? t).getD _) (.tup [pr.1, pr.2]))
        rw [g3]
        exact ⟨g3, Nat.le_of_ble_eq_true rfl, [x, y], .cons a2 (.cons b2 .nil), ⟨_, g3, rfl, _, rfl⟩⟩
      · by_cases ht2 : t = h'.objs.size
        · subst ht2
          rw [atl] at ho
          cases ho
          refine ⟨by rw [List.length_map, hl, ← ez, List.length_zip]; omega, acc.toList, c, by rw [hacc]; exact vals_of_refs as, ?_⟩
          rw [Array.toArray_toList]
          exact hS
        · rw [off t ht ht2] at ho
          exact (I1.hok t u ho).stay (fun d v _ y => kp0 d v y) (fun d y => kp d _ y) fun d _ y => kp d _ y
  refine ⟨V.ref h'.objs.size, _, J, rfl, q _ _ as kp frl atl fr (pairedM pz fun t ht pr e => ⟨_, e, _, ?_, rfl⟩)⟩
  obtain ⟨j, hj⟩ := List.mem_iff_getElem?.mp ht
  obtain ⟨x, y, _, _, g3⟩ := hG.pairs j t hj
  rw [g3]
  rfl
end
theorem rvAll_refs {W : Wd} {F : Addr → Prop} {H : Hp} : ∀ {vs ws : List V} {ds es : List Dat} {ts : List Addr}, RvAll W F H vs ds → RvAll W F H ws es → Paired (fun (t : Addr) (p : V × V) => ∃ o, H t = some o ∧ TpO o [p.1, p.2]) ts (vs.zip ws) → (∀ t ∈ ts, F t) → RvAll W F H (ts.map V.ref) (zipD ds es)
  | _, _, _, _, _, .nil, _, p, _ => by
    cases p
    exact .nil
  | _, _, _, _, _, .cons _ _, .nil, p, _ => by
    cases p
    exact .nil
  | _, _, _, _, _, .cons a r, .cons b r2, p, hf => by
    cases p with
    | cons h p =>
      obtain ⟨o, e1, tp⟩ := h
      exact .cons (.tup ⟨hf _ List.mem_cons_self, o, e1, tp⟩ (.cons a (.cons b .nil))) (rvAll_refs r r2 p fun t ht => hf t (List.mem_cons_of_mem _ ht))
section
variable {W : Wd} {H0 : Hp}
theorem a_listZip {k1 k2 : Bool} {t : TA} {aa : AFr} (h : AArg W H0 2 t aa) : AFrs W H0 (tListZipF k1 k2 W.K t) (iZipA k1 k2 aa) := ⟨fun σ env F H Q P ok m q kk => h.run σ env F H _ _ ok m q fun ds F1 H1 vs p1 x1 r1 l1 => by
  match ds, l1, p1, r1 with
  | [d, e], _, p1, .cons (v := v) r1 (.cons (v := u) r2 .nil) =>
    have p1 : kQ k1 d fun xs => kQ k2 e fun ys => P (zipD xs ys) := p1
    obtain ⟨a, us, xs, rfl, ha, ra, p1⟩ := kQ_rv r1 p1
    obtain ⟨b, ws, ys, rfl, hb, rb, p1⟩ := kQ_rv r2 p1
    refine ⟨a, b, us, ws, rfl, kQ_sub ha (Sub.refl _ _), kQ_sub hb (Sub.refl _ _), fun H' l ts sm hl el fr pt => ?_⟩
    have nn : ∀ c o, H1 c = some o → H' c = some o := fun c o e => sm c o e
    have atT : ∀ t ∈ ts, ∃ o, H' t = some o ∧ ∃ vs, TpO o vs := fun t ht => by
      obtain ⟨j, hj⟩ := List.mem_iff_getElem?.mp ht
      obtain ⟨pr, _, o, e, tp⟩ := paired_at pt hj
      exact ⟨o, e, _, tp⟩
    have sb : Sub F1 H1 (fun c => F1 c ∨ c ∈ ts) H' := fun c f => ⟨.inl f, by
      cases e : H1 c with
      | none => exact absurd e (x1.ok.tr c f)
      | some o => exact nn c o e⟩
    have x2 : Ext W F1 H1 (fun c => F1 c ∨ c ∈ ts) H' := by
      refine ⟨fun _ f => .inl f, fun c f => f.elim .inl fun f => .inr (fr c f), fun c o e _ => nn c o e, ⟨fun c f => ?_, fun p c e => ?_⟩⟩
      · rcases f with f | f
        · rw [(sb c f).2]
          exact x1.ok.tr c f
        · obtain ⟨o, e, _⟩ := atT c f
          rw [e]
          exact fun z => by cases z
      · obtain ⟨h1, h2, h3⟩ := x1.ok.po p c e
        have nP : H1 p ≠ none ∧ H1 c ≠ none := by
          obtain ⟨_, _, _, _, _, _, e1, e2, _⟩ := h1
          exact ⟨fun z => (by rw [e1] at z; cases z), fun z => (by rw [e2] at z; cases z)⟩
        exact ⟨h1.same sm, fun f => f.elim h2 fun f => nP.1 (fr p f), fun f => f.elim h3 fun f => nP.2 (fr c f)⟩
    refine kk _ _ H' l _ p1 (x1.trans ok x2) (x1.there ok hl) (fun f => ?_) el (rvAll_refs (ra.sub sb) (rb.sub sb) pt fun t ht => .inr ht)
    rcases f with f | f
    · exact x1.ok.tr l f hl
    · obtain ⟨o, e, vs, ob, _, rfl⟩ := atT l f
      rw [el] at e
      cases e⟩
end
section
variable {prog : Program} {w : World} {A : Around} {E : Value → Shared → Prop} {s : Shared} {K : PySem.W.Frag} {x C f L : Addr} {ox : Obj} {od : Option Obj} {h₀ : Heap} {m : Str → Option Value}
theorem bound_bi {M : Model} {nm : Str} {i : String} {as : List Value} {Q : Option Value → Shared → Prop} (kin : K.In s.heap) (J : PySem.W.InstAt s.heap x ox C od) (hs : PySem.W.findIn K (.ref C) nm = some (some (.builtin i))) (hb : ∀ z, bindSpecial (.builtin i) z = pure (.builtin i, [z]))
    (h : wpAny M A (call (.builtin i) (.ref x :: as)) (fun v => Q (some v)) E s) : wpAny M A (callSpecialIfBound? (.ref x) nm as) Q E s := by
  unfold callSpecialIfBound? bindSpecialIfBound?
  refine wpAny_holding (wpAny_bind (wpAny_bind (wpAny_bind (J.type.here ((PySem.W.looks_findIn kin hs).here ?_))))); refine wpAny_bind (wpAny_askSetting (wpAny_ite ?_))
  have go : wpAny M A (call (.builtin i) ([.ref x] ++ as) >>= fun v => pure (some v)) Q E s := wpAny_bind (wpAny_mono h (fun v s' z => wpAny_pure z) fun _ _ z => z)
  split
  · exact wpAny_bind (wpAny_of_eq (hb _) (wpAny_pure (by exact go)))
  · exact wpAny_tryCatch (wpAny_bind (wpAny_of_eq (hb _) (wpAny_pure (by exact go))))
theorem ne_entry {b : Value} {Q : Fin → Shared → Prop} (kin : K.In s.heap) (J : PySem.W.InstAt s.heap x ox C od) (he : PySem.W.findIn K (.ref C) "__eq__" = some (some (.ref f))) (hf : PySem.W.isFn K (.ref f) = true) (hu : A.units < cLine)
    (hc : wpAny (model prog w) A (call (.ref f) [.ref x, b]) (fun v s' => ∃ c, v = .bool c ∧ Q (.done (.ret (.bool (!c)))) s') E s) : wpAny (model prog w) A (Builtin.«object.__ne__» ⟨[.ref x, b], []⟩) Q E s := by
  unfold Builtin.«object.__ne__»
  repeat (first
    | with_reducible refine wpAny_cRoomFor hu ?_
    | (refine wpAny_bind (m := callSpecialIfBound? (.ref x) (Str.ofString "__eq__") [b]) (PySem.W.ifBound_K kin J he hf (wpAny_mono hc (fun r s' hr => by
        obtain ⟨c, rfl, q⟩ := hr
        repeat (first | exact q | exact wpAny_pure q | exact wpAny_truthy_bool q | (refine wpAny_bind (m := truthy (.bool _)) (wpAny_truthy_bool ?_)) | wp_step)) fun _ _ e => e)))
    | wp_step)
theorem ne_try {b : Value} {Q : Value → Shared → Prop} (kin : K.In s.heap) (J : PySem.W.InstAt s.heap x ox C od) (hm : PySem.W.mroIn K C (.type "object") = some true) (hn : PySem.W.findIn K (.ref C) "__ne__" = some (some (.builtin "object.__ne__"))) (he : PySem.W.findIn K (.ref C) "__eq__" = some (some (.ref f))) (hf : PySem.W.isFn K (.ref f) = true) (hu : A.units + 1 < cLine)
    (hc : wpAny (model prog w) A.in1 (call (.ref f) [.ref x, b]) (fun v s' => ∃ c, v = .bool c ∧ Q (.bool (!c)) s') E s) : wpAny (model prog w) A (tryCompare (.ref x) "__ne__" b) (fun r s' => ∃ v, r = some v ∧ Q v s') E s := by
  unfold tryCompare
  refine wpAny_bind (bound_bi kin J hn F.cmp_object.ne.bind (wpAny_call (codeAny_call_builtin F.cmp_object.ne.plain F.cmpEntry_ne (PySem.W.check_slot F.cmpKind_ne F.cmpSplit_ne (J.type.andThen (PySem.W.looks_mroIn kin hm)) (F.cmpArgs_ne _ _) (ne_entry (A := A.in1) kin J he hf hu (wpAny_mono hc (fun v s' hv => ?_) fun _ _ e => e))))))
  obtain ⟨c, rfl, q⟩ := hv
  first | exact ⟨c, rfl, wpAny_pure ⟨_, rfl, q⟩⟩ | exact ⟨c, rfl, ⟨_, rfl, q⟩⟩ | exact ⟨c, rfl, wpAny_pure (wpAny_pure ⟨_, rfl, q⟩)⟩
theorem ne_K {b : Value} {Q : Value → Shared → Prop} (kin : K.In s.heap) (J : PySem.W.InstAt s.heap x ox C od) (hb : PySem.W.Looks (model prog w) s.heap (typeOf b) (.ref C)) (hm : PySem.W.mroIn K C (.type "object") = some true) (hn : PySem.W.findIn K (.ref C) "__ne__" = some (some (.builtin "object.__ne__"))) (he : PySem.W.findIn K (.ref C) "__eq__" = some (some (.ref f))) (hf : PySem.W.isFn K (.ref f) = true) (hu : A.units + 1 < cLine)
    (hc : wpAny (model prog w) A.in1 (call (.ref f) [.ref x, b]) (fun v s' => ∃ c, v = .bool c ∧ Q (.bool (!c)) s') E s) : wpAny (model prog w) A (richCompare .NotEq (.ref x) b) Q E s := by
  unfold richCompare
  simp only [oneThing_ref]
  refine wpAny_holding (wpAny_bind (wpAny_cRoomFor (Nat.lt_of_succ_lt hu) (wpAny_bind (J.type.here (wpAny_bind (hb.here ?_))))))
  rw [cmpInfo_NotEq]
  dsimp only
  rw [show (Value.ref C != Value.ref C) = false from by simp]
  simp only [Bool.false_eq_true, if_false]
  refine wpAny_bind (wpAny_pure ?_)
  simp only [Bool.false_eq_true, if_false]
  refine wpAny_bind (wpAny_mono (ne_try kin J hm hn he hf hu hc) (fun r s' z => ?_) fun _ _ e => e)
  obtain ⟨v, rfl, q⟩ := z
  exact wpAny_pure q
end
/-- != of two instances of the class at C, by the promise of its own __eq__ -/
def rNeO (C : Addr) (sp : Sp) (E : XK) : R2 := fun x y H Q => ∃ a b dx dy fs gs, x = .ref a ∧ y = .ref b ∧ H a = some (.ins C dx fs) ∧ H b = some (.ins C dy gs) ∧ sp [.ref a, .ref b] H (fun v H' => ∃ c : Bool, v = .bl c ∧ Q (.bl (!c)) H') E
def kNeO (c : Nat) (asp : ASp) : Dat → Dat → (Dat → Prop) → Prop := fun x y P => (match x, y with
  | .obj c1 _, .obj c2 _ => c1 = c ∧ c2 = c
  | _, _ => False) ∧ asp [x, y] fun d => ∃ b, d = .bl b ∧ P (.bl (!b))
theorem rok_neO {K : PySem.W.Frag} {ca : Nat → Addr} {po : Option (Addr × Addr)} {c : Nat} {asp : ASp} {E : XK} : ROk ⟨K, ca, po⟩ Rv Rv Rv (rNeO (ca c) (toSp K ca asp) E) (kNeO c asp) := fun F H x y d e Q P ok r1 r2 q k => by
  obtain ⟨q0, q⟩ := q
  cases r1 with
  | obj f1 h1 rf1 n1 =>
    cases r2 with
    | obj f2 h2 rf2 n2 =>
      obtain ⟨rfl, rfl⟩ := q0
      exact ⟨_, _, _, _, _, _, rfl, rfl, h1, h2, po, F, _, _, ok, .cons (.obj f1 h1 rf1 n1) (.cons (.obj f2 h2 rf2 n2) .nil), q, fun d F' H' v ⟨b, hb, p⟩ x r => by
        subst hb
        cases r
        exact ⟨b, rfl, k _ F' H' _ p x (.bl (!b))⟩⟩
    | _ => exact q0.elim
  | _ => exact q0.elim
/-- name = {..} on one line, the name a local -/
theorem ps_setDc {X : Cx} {i : Nat} {y : Str} {py : Pos} {kx vx tg iter : Expr} {ifs : List Expr} {sc : Scope} {own : List (Str × Nat)} {pos spos : Pos} {wi : TI} {g : TG} {tt : TT} {tk tv : TE} (hc : X.calm = true) (hN : X.N.Nodup) (hy : X.N[i]? = some y) (hyl : X.env.scope.names.lookup y = some .local)
    (hsw : swapsWith (.DictComp kx vx [⟨tg, iter, ifs, 0⟩] sc pos) (some (.Name y py)) spos.line X.env = pure true) (hi : PI X tg iter wi) (ok : BlkOk X.N X.env.scope sc own)
    (hg : ∀ (s : Shared) (H : Hp) (C : Addr) (cl : List (Str × Addr)) (fp : List Addr), PG (X.blk s H sc (compEnvC sc cl C X.env) fp) tg g) (ht : ∀ (s : Shared) (H : Hp) (C : Addr) (cl : List (Str × Addr)) (fp : List Addr), PTs (X.blk s H sc (compEnvC sc cl C X.env) fp) ifs tt)
    (hk : ∀ (s : Shared) (H : Hp) (C : Addr) (cl : List (Str × Addr)) (fp : List Addr), PE (X.blk s H sc (compEnvC sc cl C X.env) fp) kx tk) (he : ∀ (s : Shared) (H : Hp) (C : Addr) (cl : List (Str × Addr)) (fp : List Addr), PE (X.blk s H sc (compEnvC sc cl C X.env) fp) vx tv) (hs : ∀ x, foldedSetIterable iter X.env x = pure x := by intro _; rfl) :
    PS X (.Assign [.Name y py] (.DictComp kx vx [⟨tg, iter, ifs, 0⟩] sc pos) spos) (tAsg (tDc wi g tt tk tv (own.map (·.2))) (gName i)) := ⟨fun pins s σ H D I h => by
  rw [exec_Assign_Name_used _ _ _ _ hsw]
  refine wpAny_bind (wpAny_standAt (wpAny_bind ?_))
  show wpAny _ X.A (do let _ ← comprehension (.DictComp kx vx [⟨tg, iter, ifs, 0⟩] sc pos) sc X.env (firstIterPos [⟨tg, iter, ifs, 0⟩] pos) newDict false (eval iter X.env) (some (assign (.Name y py) X.env))) _ _ s
  have h : tDc wi g tt tk tv (own.map (·.2)) σ H (fun x H1 => gName i x σ H1 D.nx) := h
  refine wpAny_bind (thn (dc_core (Qf := fun _ s' => SP X pins D .next s') hc hN I hi ok hg ht hk he hs h fun L C s' m H' I' q hn f => ?_) fun _ s' hq => wpAny_pure (wpAny_pure hq)); show wpAny _ _ (assign (.Name y py) X.env (.ref L)) _ _ _
  refine wpAny_assign_Name (store_ok2 (v := V.ref L) I' hN hy (.inl hyl) rfl (fun s2 I2 z2 => ?_) (.inr hyl))
  obtain ⟨a, sb, ha⟩ := z2; obtain ⟨f0, f1, f2, f3, f4, f5⟩ := f
  have nCa : C ≠ a := by
    rcases ha with z | z
    · rw [z]; exact f1
    · exact fun e => f4 y a z e.symm
  exact ⟨m, hn.sameBut sb nCa, fun h3 sb3 => ⟨_, H', I2.turned (t' := s2.toks) (fun b o hb e => (sb3.2 b hb).trans e) f0 f1 f3 f4 f5, q⟩⟩⟩
theorem sw_dc {kx vx : Expr} {gs : List Comprehension} {sc : Scope} {pos py : Pos} {y : Str} {l : Nat} {env : Env} (hk : env.scope.kind = .function) (hy : env.scope.names.lookup y = some .local) (hl : (py.line == pos.line) = true)
    (ha : (sc.names.any fun (n, k) => n == y && (k == .local || k == .cell)) = false) : swapsWith (.DictComp kx vx gs sc pos) (some (.Name y py)) l env = pure true := by
  have ky : env.kindOf y = some .local := hy
  have kb : env.blockKind = .function := by unfold Env.blockKind; rw [hk]; rfl
  unfold swapsWith
  simp only [kb, ky, ha, Expr.pos, hl]
  rfl
/-- the entries that are made of ds, behind those of acc -/
def lcD (el : Dat → (Option (Dat × Dat) → Prop) → Prop) (P : List (Key × Dat) → Prop) : List Dat → List (Key × Dat) → Prop
  | [], acc => P acc
  | d :: ds, acc => el d fun o => match o with
    | some (x, y) => ksQ x fun k => lcD el P ds (putD acc k y)
    | none => lcD el P ds acc
def elD (ag : ATg) (at_ : ATs) (ek ev : AEx) (env : List Sl) : Dat → (Option (Dat × Dat) → Prop) → Prop := fun d P => ag d env fun env2 => at_ env2 fun b => two b (ek env2 fun x => ev env2 fun y => P (some (x, y))) (P none)
def aDc (ai : AFr) (ag : ATg) (at_ : ATs) (ek ev : AEx) (vs : List Nat) : AEx := fun env P => ai env fun ds => ds.length ≤ 100000 ∧ lcD (elD ag at_ ek ev (wipeA env vs)) (fun kds => P (.dK kds)) ds []
theorem putD_len {kvs : List (Key × Dat)} {k : Key} {d : Dat} : (putD kvs k d).length ≤ kvs.length + 1 := by
  unfold putD
  split
  · rw [List.length_map]
    omega
  · rw [List.length_append, List.length_singleton]
    omega
theorem a_dc {W : Wd} {H0 : Hp} {wi : TI} {g : TG} {tt : TT} {tk tv : TE} {vs : List Nat} {ai : AFr} {ag : ATg} {at_ : ATs} {ek ev : AEx} (hi : AIter W H0 wi ai) (hg : ATgt W H0 vs g ag) (ht : ATst W H0 tt at_) (hk : AExp W H0 tk ek) (he : AExp W H0 tv ev) :
    AExp W H0 (tDc wi g tt tk tv vs) (aDc ai ag at_ ek ev vs) := ⟨fun σ env F H Q P ok m q k => hi.run σ env F H _ _ ok m q fun ds F1 H1 J p1 x1 itk => by
  intro D hD
  obtain ⟨sz, p1⟩ := p1
  have ok1 := x1.ok
  have m1 := m.ext ok x1
  have np : NPc W D := ok1.pne hD
  refine ⟨fun i n H' => n + i = ds.length ∧ ∃ F' acc ys, Ext W F1 H1 F' H' ∧ ¬ F' D ∧ H' D = some (.dK acc) ∧ RvKv W F' H' acc ys ∧ ys.length ≤ i ∧ lcD (elD ag at_ ek ev (wipeA env vs)) (fun kds => P (.dK kds)) (ds.drop i) ys,
    ⟨ds.length, rfl, F1, [], [], Ext.lay ok1 hD, fun f => ok1.tr D f hD, upd_same, .nil, Nat.le_refl _, p1⟩, ?_⟩
  rintro i n H2 ⟨hn, F2, acc, ys, x2, nf, hA, r2, ly, p2⟩
  have ok2 := x2.ok
  by_cases hlt : i < ds.length
  · have hd : ds[i]? = some ds[i] := List.getElem?_eq_getElem hlt
    obtain ⟨go, yl⟩ := itk.it F2 H2 ok2 (x2.sub ok1) i _ hd
    rw [List.drop_eq_getElem_cons hlt] at p2
    refine .inr ⟨go, fun H' => ∃ F' acc ys, Ext W F1 H1 F' H' ∧ ¬ F' D ∧ H' D = some (.dK acc) ∧ RvKv W F' H' acc ys ∧ ys.length ≤ i + 1 ∧ lcD (elD ag at_ ek ev (wipeA env vs)) (fun kds => P (.dK kds)) (ds.drop (i + 1)) ys,
      fun H' ⟨F', acc, ys, rest⟩ => ⟨n - 1, by omega, by omega, F', acc, ys, rest⟩, fun x H3 y => ?_⟩
    obtain ⟨F3, x3, rx⟩ := yl x H3 y
    have x13 := x2.trans ok1 x3
    refine hg.run x _ _ _ F3 H3 _ _ x3.ok ((m1.ext ok1 x13).wipe vs) rx p2 fun env4 σ4 p4 m4 w4 => ?_
    refine ⟨w4.trans (wipe_wipe σ vs), ht.run σ4 env4 F3 H3 _ _ x3.ok m4 p4 fun b F5 H5 p5 x5 => ?_⟩
    have keep : ∀ {Fa Fb : Addr → Prop} {Ha Hb : Hp}, Ext W Fa Ha Fb Hb → ¬ Fa D → Ha D = some (.dK acc) → ¬ Fb D ∧ Hb D = some (.dK acc) := fun {Fa Fb Ha Hb} x nf h => by
      refine ⟨fun f => ?_, x.kp D _ h np.np⟩
      rcases x.dn D f with z | z
      · exact nf z
      · rw [z] at h
        cases h
    obtain ⟨nf3, h3⟩ := keep x3 nf hA
    obtain ⟨nf5, h5⟩ := keep x5 nf3 h3
    have x35 := x3.trans ok2 x5
    have x15 := x2.trans ok1 x35
    cases b with
    | true =>
      rw [if_pos rfl]
      refine hk.run σ4 env4 F5 H5 _ _ x5.ok (m4.ext x3.ok x5) p5 fun dk F6 H6 kv p6 x6 r6 => ?_
      refine he.run σ4 env4 F6 H6 _ _ x6.ok ((m4.ext x3.ok x5).ext x5.ok x6) p6 fun e F7 H7 v p7 x7 r7 => ?_
      obtain ⟨nf6, h6⟩ := keep x6 nf5 h5
      obtain ⟨nf7, h7⟩ := keep x7 nf6 h6
      have x17 := (x15.trans ok1 x6).trans ok1 x7
      have r27 := r2.sub (((x35.trans ok2 x6).trans ok2 x7).sub ok2)
      obtain ⟨kk, rfl, p7⟩ := ksQ_at p7 r6
      have sb : Sub F7 H7 F7 (upd H7 D (.dK (putK acc kk v))) := fun a f => ⟨f, upd_ne (fun z => nf7 (by rw [← z]; exact f))⟩
      refine ⟨acc, kk, rfl, h7, len_size (by rw [r2.len]; omega), F7, _, putD ys kk e, ⟨x17.up, x17.dn, fun a o ha npa => ?_, ⟨fun a f => ?_, fun p c ep => ?_⟩⟩, nf7, upd_same, (r27.put r7).sub sb, Nat.le_trans putD_len (Nat.succ_le_succ ly), p7⟩
      · rw [upd_ne (ne_of_none ha hD)]
        exact x17.kp a o ha npa
      · rw [(sb a f).2]
        exact x17.ok.tr a f
      · obtain ⟨h1, h2, h3⟩ := x17.ok.po p c ep
        exact ⟨h1.mut (np p c ep).1 (np p c ep).2, h2, h3⟩
    | false =>
      rw [if_neg Bool.false_ne_true]
      exact ⟨F5, acc, ys, x15, nf5, h5, r2.sub (x35.sub ok2), by omega, p5⟩
  · have e : i = ds.length := by omega
    subst e
    rw [List.drop_length] at p2
    refine .inl ⟨itk.done F2 H2 ok2 (x2.sub ok1), ?_⟩
    exact k (.dK ys) (fun b => F2 b ∨ b = D) H2 (.ref D) p2 ((x1.trans ok x2).fz ok (x1.there ok hD) hA) (.dK (.inr rfl) hA (r2.sub (sub_fz D)))⟩
theorem dgetD_put {kvs : List (Key × Dat)} {k j : Key} {d : Dat} : dgetD (putD kvs k d) j = if k = j then some d else dgetD kvs j := by
  unfold putD
  by_cases h : (kvs.any fun kv => decide (kv.1 = k)) = true
  · rw [if_pos h]
    induction kvs with
    | nil => cases h
    | cons p r ih =>
      rw [List.map_cons]
      by_cases e : p.1 = k
      · rw [if_pos e]
        subst e
        by_cases z : p.1 = j
        · rw [if_pos z]
          subst z
          simp [dgetD, List.find?_cons]
        · rw [if_neg z]
          have e2 : dgetD ((p.1, d) :: r.map fun kv => if kv.1 = p.1 then (kv.1, d) else kv) j = dgetD (r.map fun kv => if kv.1 = p.1 then (kv.1, d) else kv) j := by simp [dgetD, List.find?_cons, z]
          have e3 : dgetD (p :: r) j = dgetD r j := by simp [dgetD, List.find?_cons, z]
          rw [e2, e3]
          clear e2 e3 ih h
          induction r with
          | nil => rfl
          | cons q t ih =>
            rw [List.map_cons]
            by_cases g : q.1 = p.1
            · rw [if_pos g]
              have z2 : ¬ q.1 = j := fun y => z (g.symm.trans y)
              have e2 : ∀ x t, dgetD ((q.1, x) :: t) j = dgetD t j := fun x t => by simp [dgetD, List.find?_cons, z2]
              rw [e2, show dgetD (q :: t) j = dgetD t j from e2 q.2 t, ih]
            · rw [if_neg g]
              by_cases z2 : q.1 = j
              · simp [dgetD, List.find?_cons, z2]
              · have e2 : ∀ t, dgetD (q :: t) j = dgetD t j := fun t => by simp [dgetD, List.find?_cons, z2]
                rw [e2, e2, ih]
      · rw [if_neg e]
        have h2 : (r.any fun kv => decide (kv.1 = k)) = true := by
          rw [List.any_cons, decide_eq_false e, Bool.false_or] at h
          exact h
        by_cases z : p.1 = j
        · have nk : ¬ k = j := fun y => e (z.trans y.symm)
          rw [if_neg nk]
          simp [dgetD, List.find?_cons, z]
        · have e2 : ∀ t, dgetD (p :: t) j = dgetD t j := fun t => by simp [dgetD, List.find?_cons, z]
          rw [e2, e2, ih h2]
  · rw [if_neg h]
    induction kvs with
    | nil =>
      by_cases z : k = j
      · rw [if_pos z]
        simp [dgetD, List.find?_cons, z]
      · rw [if_neg z]
        simp [dgetD, List.find?_cons, z]
    | cons p r ih =>
      have h2 : ¬ (r.any fun kv => decide (kv.1 = k)) = true := fun y => h (by rw [List.any_cons, y, Bool.or_true])
      have nk : ¬ p.1 = k := fun y => h (by rw [List.any_cons, decide_eq_true y, Bool.true_or])
      rw [List.cons_append]
      by_cases z : p.1 = j
      · rw [if_neg fun y => nk (z.trans y.symm)]
        simp [dgetD, List.find?_cons, z]
      · have e2 : ∀ t, dgetD (p :: t) j = dgetD t j := fun t => by simp [dgetD, List.find?_cons, z]
        rw [e2, e2, ih h2]
def aDIn (n : Bool) (ek ed : AEx) : AEx := fun env P => ek env fun y => ed env fun x => dDQ x fun kds => ksQ y fun k => P (.bl (if n then !(dgetD kds k).isSome else (dgetD kds k).isSome))
section
variable {W : Wd} {H0 : Hp} {tk td : TE} {ek ed : AEx}
theorem RvKv.some_ {F : Addr → Prop} {H : Hp} {us : List (Key × V)} {kds : List (Key × Dat)} (r : RvKv W F H us kds) (k : Key) : (valV us k).isSome = (dgetD kds k).isSome := by
  cases g : dgetD kds k with
  | some y =>
    obtain ⟨_, e, _⟩ := r.dget g
    rw [e]
    rfl
  | none =>
    rw [r.dno g]
    rfl
theorem a_dnin (hk : AExp W H0 tk ek) (hd : AExp W H0 td ed) : AExp W H0 (tDNotIn tk td) (aDIn true ek ed) := ⟨fun σ env F H Q P ok m q k => hk.run σ env F H _ _ ok m q fun y F1 H1 u p1 x1 r1 => hd.run σ env F1 H1 _ _ x1.ok (m.ext ok x1) p1 fun d F2 H2 v p2 x2 r2 => by
  cases d with
  | dK kds =>
    cases r2 with
    | @dK a kvs _ fa hA rr =>
      obtain ⟨kk, rfl, p2⟩ := ksQ_at (show ksQ y _ from p2) r1
      exact ⟨a, _, rfl, DGet.k hA, k _ F2 H2 _ (by rw [rr.some_]; exact p2) (x1.trans ok x2) (.bl _)⟩
  | _ => exact (show False from p2).elim⟩
end
theorem RvAll.erase {W : Wd} {F : Addr → Prop} {H : Hp} : ∀ {vs : List V} {ds : List Dat} (n : Nat), RvAll W F H vs ds → RvAll W F H (vs.eraseIdx n) (ds.eraseIdx n)
  | _, _, _, .nil => .nil
  | _, _, 0, .cons _ r => r
  | _, _, n + 1, .cons a r => .cons a (RvAll.erase n r)
def bPop (eo ei : BEx) : BEx := fun env M X P => eo env M X fun x M1 => ceQ x fun a => cQ (M1 a) fun _ => ei env M1 X fun y M2 => inQ y fun j => cQ (M2 a) fun xs => ∃ (n : Nat) (d : Dat), j = (n : Int) ∧ n < 1000000 ∧ xs[n]? = some d ∧ P d (M2.put a (some (.lst (xs.eraseIdx n))))
def bRan (ba : BFr) : BFr := fun env M X P => ba env M X fun ds M1 => match ds with
  | [.int j] => j < 1000000000000 ∧ -1000000000000 < j ∧ P ((List.range j.toNat).map fun (i : Nat) => Dat.int (0 + (i : Int))) M1
  | _ => False
theorem b_ran {W : Wd} {H0 : Hp} {E : XS} {t : TA} {ba : BFr} (h : BArg W H0 E 1 t ba) : BIter W H0 E (iRng1 t) (bRan ba) := ⟨fun σ env F H M R P X c q k => h.run σ env F H M _ _ X c q fun ds F1 H1 vs M1 p1 x1 r1 l1 => by
  match ds, l1, p1, r1 with
  | [.int j], _, p1, .cons r .nil =>
    obtain ⟨p0, p2, p1⟩ := p1
    cases (show Rv W F1 H1 _ (.int j) from r)
    exact ⟨j, rfl, by omega, by omega, k _ F1 H1 _ M1 p1 x1 (it_ran 0 j.toNat)⟩
  | [.non], _, p1, _ => exact (show False from p1).elim
  | [.bl _], _, p1, _ => exact (show False from p1).elim
  | [.str _], _, p1, _ => exact (show False from p1).elim
  | [.pool], _, p1, _ => exact (show False from p1).elim
  | [.lst _], _, p1, _ => exact (show False from p1).elim
  | [.tup _], _, p1, _ => exact (show False from p1).elim
  | [.obj _ _], _, p1, _ => exact (show False from p1).elim
  | [.dK _], _, p1, _ => exact (show False from p1).elim
  | [.cell _], _, p1, _ => exact (show False from p1).elim⟩
def bMeth2 (c : Nat) (bsp : BSp) (eo : BEx) (ba : BFr) : BEx := fun env M X P => eo env M X fun x M1 => ceQ x fun a => coQ (M1 a) fun k _ => k = c ∧ ba env M1 X fun ds M2 => bsp (.cell a :: ds) M2 X0 P
theorem b_meth2 {K : PySem.W.Frag} {ca : Nat → Addr} {po : Option (Addr × Addr)} {H0 : Hp} {E : XS} {n c : Nat} {m : Str} {to : TE} {t : TA} {E' : XK} {eo : BEx} {ba : BFr} {bsp : BSp} (hm : m ∉ clsN c) (ho : BExp ⟨K, ca, po⟩ H0 E to eo) (h : BArg ⟨K, ca, po⟩ H0 E n t ba) : BExp ⟨K, ca, po⟩ H0 E (tMeth (ca c) m (toSp2 K ca bsp) [] E' to t) (bMeth2 c bsp eo ba) :=
  ⟨fun σ env F H M Q P X cf q k => ho.run σ env F H M _ _ X cf q fun d F1 H1 v M1 p1 x1 r1 => by
    cases d with
    | cell a =>
      have e := rv_cell (show Rv ⟨K, ca, po⟩ F1 H1 v (.cell a) from r1)
      subst e
      obtain ⟨kk, ds0, hM, rfl, p3⟩ := coQ_at p1
      obtain ⟨nf, np, dx, fs, hA, lf, rf, no⟩ := x1.ok.at_ a _ hM
      refine ⟨a, dx, fs, rfl, hA, no m fun z => hm (List.mem_of_mem_take z), ?_⟩
      exact h.run σ env F1 H1 M1 _ _ X (cf.step x1) p3 fun ds F2 H2 vs M2 p2 x2 r2 _ => by
        rw [List.append_nil]
        exact ⟨po, F2, M2, .cell a :: ds, P, X0, x2.ok, .cons (.cell a) r2, p2, .zero, fun d F' H' M' v p x r => k d F' H' v M' p ((x1.trans x2).trans x) r⟩
    | _ => exact (show False from p1).elim⟩
/-- a promise that may raise, where it doesn't -/
def bspZ (bsp : BSp) : BSp := fun ds M _ P => bsp ds M X0 P
theorem sp2_z {K : PySem.W.Frag} {ca : Nat → Addr} {bsp : BSp} : ∀ vs H Q E, toSp2 K ca (bspZ bsp) vs H Q E → toSp2 K ca bsp vs H Q (fun _ _ _ => False) := fun vs H Q E ⟨po, F, M, ds, P, X, so, r, p, xo, k⟩ => ⟨po, F, M, ds, P, X0, so, r, p, .zero, k⟩
/-- a datum as it stands now, cells opened also within data, so many deep -/
def vwX : Nat → Sto → Dat → Dat
  | 0, _, d => d
  | n + 1, M, .cell a => match M a with
    | some (.lst xs) => .lst (xs.map (vwX n M))
    | some (.obj k ds) => if ds.length = (clsN k).length then .obj k (ds.map (vwX n M)) else .cell a
    | some (.dK kvs) => .dK (kvs.map fun p => (p.1, vwX n M p.2))
    | _ => .cell a
  | n + 1, M, .lst xs => .lst (xs.map (vwX n M))
  | n + 1, M, .tup xs => .tup (xs.map (vwX n M))
  | n + 1, M, .obj k ds => .obj k (ds.map (vwX n M))
  | n + 1, M, .dK kvs => .dK (kvs.map fun p => (p.1, vwX n M p.2))
  | _ + 1, _, .non => .non
  | _ + 1, _, .bl b => .bl b
  | _ + 1, _, .int i => .int i
  | _ + 1, _, .str s => .str s
  | _ + 1, _, .pool => .pool
section
variable {W : Wd} {F : Addr → Prop} {H : Hp} {M : Sto}
theorem vwX_ok (ok : SoOk W F H M) : ∀ (n : Nat) (v : V) (d : Dat), Rv W F H v d → Rv W (Pls F M) H v (vwX n M d)
  | 0, v, d, r => r.sub sub_pls
  | n + 1, v, d, r => by
    cases d with
    | cell a =>
      have e := rv_cell r
      subst e
      show Rv W (Pls F M) H (.ref a) (match M a with
        | some (.lst xs) => .lst (xs.map (vwX n M))
        | some (.obj k ds) => if ds.length = (clsN k).length then .obj k (ds.map (vwX n M)) else .cell a
        | some (.dK kvs) => .dK (kvs.map fun p => (p.1, vwX n M p.2))
        | _ => .cell a)
      cases e : M a with
      | none => exact .cell a
      | some c =>
        have pa : Pls F M a := .inr (by rw [e]; exact fun z => by cases z)
        cases c with
        | lst xs =>
          obtain ⟨_, _, vs, h, r⟩ := ok.at_ a _ e
          exact .lst pa h (r.vw (vwX_ok ok n))
        | obj k ds =>
          obtain ⟨_, _, dx, fs, h, _, r, no⟩ := ok.at_ a _ e
          show Rv W (Pls F M) H (.ref a) (if ds.length = (clsN k).length then .obj k (ds.map (vwX n M)) else .cell a)
          by_cases z : ds.length = (clsN k).length
          · rw [if_pos z]
            rw [z, List.take_length] at r no
            exact .obj pa h (r.vw (vwX_ok ok n)) no
          · rw [if_neg z]
            exact .cell a
        | dK kvs =>
          obtain ⟨_, _, us, h, r⟩ := ok.at_ a _ e
          exact .dK pa h (r.vw (vwX_ok ok n))
        | xd _ _ => exact .cell a
    | lst xs =>
      cases r with
      | lst f h r => exact .lst (.inl f) h (r.vw (vwX_ok ok n))
    | tup xs =>
      cases r with
      | tup h r => exact .tup (h.sub sub_pls) (r.vw (vwX_ok ok n))
    | obj k ds =>
      cases r with
      | obj f h r no => exact .obj (.inl f) h (r.vw (vwX_ok ok n)) no
    | dK kvs =>
      cases r with
      | dK f h r => exact .dK (.inl f) h (r.vw (vwX_ok ok n))
    | non => exact r.sub sub_pls
    | bl b => exact r.sub sub_pls
    | int i => exact r.sub sub_pls
    | str s => exact r.sub sub_pls
    | pool => exact r.sub sub_pls
end
/-- a slot as it was, or opened -/
def SlX (M : Sto) (s t : Sl) : Prop := t = s ∨ ∃ n d, s = .d d ∧ t = .d (vwX n M d)
inductive SlsX (M : Sto) : List Sl → List Sl → Prop
  | nil : SlsX M [] []
  | cons {s t : Sl} {ss ts : List Sl} : SlX M s t → SlsX M ss ts → SlsX M (s :: ss) (t :: ts)
theorem SlsX.len {M : Sto} : ∀ {ss ts : List Sl}, SlsX M ss ts → ts.length = ss.length
  | _, _, .nil => rfl
  | _, _, .cons _ r => congrArg (· + 1) r.len
theorem SlsX.get {M : Sto} : ∀ {ss ts : List Sl} {i : Nat} {t : Sl}, SlsX M ss ts → ts[i]? = some t → ∃ s, ss[i]? = some s ∧ SlX M s t
  | _, _, _, _, .nil, e => by simp at e
  | _, _, 0, _, .cons a _, e => by
    rw [List.getElem?_cons_zero] at e
    cases e
    exact ⟨_, rfl, a⟩
  | _, _, i + 1, _, .cons _ r, e => by
    rw [List.getElem?_cons_succ] at e
    obtain ⟨s, h1, h2⟩ := SlsX.get (i := i) r e
    exact ⟨s, h1, h2⟩
theorem SlX.own {M : Sto} {s : Sl} {xs : List Dat} (h : SlX M s (.o xs)) : s = .o xs := by
  rcases h with e | ⟨_, _, _, e⟩
  · exact e.symm
  · cases e
/-- from here on no cell changes any more -/
def zStl (bs : BSt) : BSt := fun D env M => ∃ env', SlsX M env env' ∧ bs D env' (fun _ => none)
theorem z_stl {W : Wd} {E : XS} {ts : TS} {bs : BSt} (h1 : BStm W E ts bs) : BStm W E ts (zStl bs) := ⟨fun F0 H0 M0 F1 H1 De Da σ env F H M c k ⟨env', hs, h⟩ => by
  have ok := c.b.ex.ok
  have sb : Sub F H (Pls F M) H := sub_pls
  refine h1.run F0 H0 M0 F1 H1 De Da σ env' (Pls F M) H (fun _ => none) ⟨⟨⟨fun a f => .inl (c.b.ex.up a f), fun a f => ?_, fun a o e n m => c.b.ex.kp a o e n m, c.b.ex.al, fun a h => absurd rfl h, ⟨ok.pls, fun a cc e => by cases e⟩⟩, c.b.sb.trans sb⟩, ?_⟩ k h
  · rcases f with f | f
    · exact c.b.ex.dn a f
    · rcases c.b.ex.md a f with z | z
      · exact .inr (.inr z)
      · exact .inr (.inl z)
  · refine ⟨by rw [hs.len, c.m.ln], fun i t e => ?_, fun i j xs ys a e1 e2 e3 e4 => ?_⟩
    · obtain ⟨s, es, hx⟩ := hs.get e
      obtain ⟨ov, e1, r⟩ := c.m.at_ i s es
      refine ⟨ov, e1, ?_⟩
      rcases hx with rfl | ⟨n, d, rfl, rfl⟩
      · cases t with
        | u => trivial
        | d y =>
          obtain ⟨v, e, r⟩ := r
          exact ⟨v, e, r.sub sb⟩
        | o xs =>
          obtain ⟨a, vs, e, nf, n0, h, r, np⟩ := r
          obtain ⟨m0, n0⟩ := mask_none.mp n0
          exact ⟨a, vs, e, (fun f => f.elim nf fun f => f m0), mask_none.mpr ⟨rfl, n0⟩, h, r.sub sb, np⟩
      · obtain ⟨v, e, r⟩ := r
        exact ⟨v, e, vwX_ok ok n v d r⟩
    · obtain ⟨s, es, hx⟩ := hs.get e1
      obtain ⟨s2, es2, hx2⟩ := hs.get e2
      obtain rfl := hx.own
      obtain rfl := hx2.own
      exact c.m.own i j xs ys a es es2 e3 e4⟩
section
variable {n : Nat} {M : Sto} {a : Addr}
theorem vx_obj {k : Nat} {ds : List Dat} (h : M a = some (.obj k ds)) (l : ds.length = (clsN k).length) : vwX (n + 1) M (.cell a) = .obj k (ds.map (vwX n M)) := by
  unfold vwX
  rw [h]
  exact if_pos l
theorem vx_lst {xs : List Dat} (h : M a = some (.lst xs)) : vwX (n + 1) M (.cell a) = .lst (xs.map (vwX n M)) := by
  unfold vwX
  rw [h]
theorem vx_n : vwX n M .non = .non := by cases n <;> rfl
theorem vx_b {b : Bool} : vwX n M (.bl b) = .bl b := by cases n <;> rfl
theorem vx_i {i : Int} : vwX n M (.int i) = .int i := by cases n <;> rfl
theorem vx_s {i : Str} : vwX n M (.str i) = .str i := by cases n <;> rfl
theorem vx_p : vwX n M .pool = .pool := by cases n <;> rfl
end
mutual
/-- no cells within -/
def ncD : Dat → Bool
  | .non => true
  | .bl _ => true
  | .int _ => true
  | .str _ => true
  | .pool => true
  | .tup xs => ncAll xs
  | .lst xs => ncAll xs
  | .obj _ xs => ncAll xs
  | .dK kvs => ncKv kvs
  | .cell _ => false
def ncAll : List Dat → Bool
  | [] => true
  | x :: xs => ncD x && ncAll xs
def ncKv : List (Key × Dat) → Bool
  | [] => true
  | (_, x) :: xs => ncD x && ncKv xs
end
theorem ncAll_of : ∀ {xs : List Dat}, (∀ x ∈ xs, ncD x = true) → ncAll xs = true
  | [], _ => rfl
  | x :: xs, h => by
    show (ncD x && ncAll xs) = true
    rw [h x List.mem_cons_self, ncAll_of fun y hy => h y (List.mem_cons_of_mem _ hy)]
    rfl
theorem ncAll_map {α : Type} {f : α → Dat} {xs : List α} (h : ∀ x ∈ xs, ncD (f x) = true) : ncAll (xs.map f) = true := ncAll_of fun d hd => by
  obtain ⟨x, hx, rfl⟩ := List.mem_map.mp hd
  exact h x hx
mutual
theorem vx_nc {n : Nat} {M : Sto} : ∀ {d : Dat}, ncD d = true → vwX n M d = d
  | .non, _ => vx_n
  | .bl _, _ => vx_b
  | .int _, _ => vx_i
  | .str _, _ => vx_s
  | .pool, _ => vx_p
  | .tup xs, h => by
    cases n with
    | zero => rfl
    | succ n => exact congrArg Dat.tup (vx_ncA h)
  | .lst xs, h => by
    cases n with
    | zero => rfl
    | succ n => exact congrArg Dat.lst (vx_ncA h)
  | .obj k xs, h => by
    cases n with
    | zero => rfl
    | succ n => exact congrArg (Dat.obj k) (vx_ncA h)
  | .dK kvs, h => by
    cases n with
    | zero => rfl
    | succ n => exact congrArg Dat.dK (vx_ncK h)
theorem vx_ncA {n : Nat} {M : Sto} : ∀ {xs : List Dat}, ncAll xs = true → xs.map (vwX n M) = xs
  | [], _ => rfl
  | x :: xs, h => by
    have h : (ncD x && ncAll xs) = true := h
    rw [Bool.and_eq_true] at h
    rw [List.map_cons, vx_nc h.1, vx_ncA h.2]
theorem vx_ncK {n : Nat} {M : Sto} : ∀ {kvs : List (Key × Dat)}, ncKv kvs = true → (kvs.map fun p => (p.1, vwX n M p.2)) = kvs
  | [], _ => rfl
  | (k, x) :: xs, h => by
    have h : (ncD x && ncKv xs) = true := h
    rw [Bool.and_eq_true] at h
    rw [List.map_cons, vx_nc h.1, vx_ncK h.2]
end
section
open AutoSeq1 (wpAny_loadPart')
open MeetsSeq MeetsSeq2 MeetsSeq3 SeqRoads2
open AutoSeq1 (wpAny_loadPart')
open MeetsSeq MeetsSeq2 MeetsSeq3 SeqRoads2
/-- at each turn the list is read anew -/
def CntI (prog : Program) (w : World) (A : Around) (E : Value → Shared → Prop) (l : Addr) (x : Value) (N : Nat) (I : Nat → Shared → Prop) (Y : Shared → Prop) : Prop :=
  ∀ i s, I i s → ∃ (items : Array Value) (n : Nat), s.heap.get? l = some { cls := .type "list", data := .seq items n } ∧ items.size = N ∧ ∀ (h1 : i < items.size), wpAny (model prog w) A.in1 (eqBool items[i] x) (fun r s' => (r = true ∧ Y s') ∨ (r = false ∧ I (i + 1) s')) E s
theorem cnt_loop {prog : Program} {w : World} {A : Around} {R : Result → Shared → Prop} {l : Addr} {x : Value} {N : Nat} (I : Nat → Shared → Prop) (Y : Shared → Prop) (hl : CntI prog w A (fun e s' => R (.error e) s') l x N I Y)
    (fin : ∀ s, I N s → R (.ok (.ret (.bool false))) s) (yes : ∀ s, Y s → R (.ok (.ret (.bool true))) s) (k : Nat) :
    ∀ i : Nat, N - i = k → i ≤ N → ∀ s, I i s → wpAny (model prog w) A.in1 (Builtin.«list.__contains__.loop» ⟨[.ref l, x, rawInt i], []⟩) (GQ.FinOf prog w A R) (fun e s' => R (.error e) s') s := by
  induction k with
  | zero =>
    intro i hk hi s h
    obtain ⟨items, n, hg, hs, _⟩ := hl _ _ h
    obtain rfl : i = N := by omega
    have hR := fin s h
    obtain ⟨hp, g, d, tk, os⟩ := s
    wp_walk using wpAny_loadPart' hg
    have hi : items[((i : Nat) : Int).toNat]? = none := by simp; omega
    rw [hi]
    wp_walk
    exact hR
  | succ k ih =>
    intro i hk hi s h
    obtain ⟨items, n, hg, hs, turn⟩ := hl _ _ h
    have hlt : i < items.size := by omega
    have ht := turn hlt
    obtain ⟨hp, g, d, tk, os⟩ := s
    wp_walk using wpAny_loadPart' hg
    have hi1 : items[((i : Nat) : Int).toNat]? = some items[i] := by simp [hlt]
    have hc : ((i : Int) + 1) = ((i + 1 : Nat) : Int) := by omega
    rw [hi1]
    refine wpAny_bind (wpAny_mono ht (fun r s2 q2 => ?_) fun _ _ x => x)
    rcases q2 with ⟨hr, q2⟩ | ⟨hr, q2⟩
    · subst hr
      have hR := yes s2 q2
      wp_walk
      exact hR
    · subst hr
      have hrec := ih (i + 1) (by omega) (by omega) s2 q2
      obtain ⟨hp2, g2, d2, tk2, os2⟩ := s2
      wp_walk
      rw [hc]
      exact ⟨plainId_quiet plain_contains_loop _, codeAny_builtin entry_contains_loop (by
        rw [Around.under_plainId plain_contains_loop _]
        exact hrec)⟩
theorem cnt_list {prog : Program} {w : World} {A : Around} {R : Result → Shared → Prop} {l : Addr} {x : Value} {N : Nat} (I : Nat → Shared → Prop) (Y : Shared → Prop) (hl : CntI prog w A (fun e s' => R (.error e) s') l x N I Y)
    (fin : ∀ s, I N s → R (.ok (.ret (.bool false))) s) (yes : ∀ s, Y s → R (.ok (.ret (.bool true))) s) {s : Shared} (h : I 0 s) :
    wpAny (model prog w) A.in1 (Builtin.«list.__contains__» ⟨[.ref l, x], []⟩) (GQ.FinOf prog w A R) (fun e s' => R (.error e) s') s := by
  obtain ⟨items, n, hg, hs, _⟩ := hl _ _ h
  have hrec := cnt_loop (A := A) (R := R) I Y hl fin yes _ 0 rfl (Nat.zero_le _) s h
  obtain ⟨hp, g, d, tk, os⟩ := s
  wp_walk using wpAny_loadPart' hg
  exact ⟨plainId_quiet plain_contains_loop _, codeAny_builtin entry_contains_loop (by
    rw [Around.under_plainId plain_contains_loop _]
    exact hrec)⟩
theorem cnt_tuple {prog : Program} {w : World} {A : Around} {R : Result → Shared → Prop} {l : Addr} {items : Array Value} {n : Nat} {dd : Option Addr} {sl : Array (Option Value)} {x : Value} (I : Nat → Shared → Prop) (Y : Shared → Prop)
    (turn : ∀ i (h1 : i < items.size) s, I i s → wpAny (model prog w) A.in1 (eqBool items[i] x) (fun r s' => (r = true ∧ Y s') ∨ (r = false ∧ I (i + 1) s')) (fun e s' => R (.error e) s') s)
    (fin : ∀ s, I items.size s → R (.ok (.ret (.bool false))) s) (yes : ∀ s, Y s → R (.ok (.ret (.bool true))) s) {s : Shared} (hg : s.heap.get? l = some { cls := .type "tuple", dict := dd, data := .seq items n, slots := sl }) (h : I 0 s) :
    wpAny (model prog w) A.in1 (Builtin.«tuple.__contains__» ⟨[.ref l, x], []⟩) (GQ.FinOf prog w A R) (fun e s' => R (.error e) s') s := by
  have h0 := h
  obtain ⟨hp, g, d, tk, os⟩ := s
  wp_walk using wpAny_loadPart' hg, wpAny_forIn_array _ (fun rest b s' => b.1 = none ∧ ∃ i, rest = items.toList.drop i ∧ i ≤ items.size ∧ I i s') _
  case turn =>
    rintro y rest b s' ⟨hb', i, hz, hi, hI⟩
    have hlt : i < items.size := by
      rcases Nat.lt_or_ge i items.size with h' | h'
      · exact h'
      · rw [List.drop_of_length_le (by simpa using h')] at hz; cases hz
    rw [List.drop_eq_getElem_cons (by simpa using hlt)] at hz
    injection hz with hy hrest
    have hy : y = items[i] := by simpa using hy
    subst hy
    refine wpAny_bind (wpAny_mono (turn i hlt s' hI) (fun r s2 q2 => ?_) fun _ _ x => x)
    rcases q2 with ⟨hr, q2⟩ | ⟨hr, q2⟩
    · subst hr
      have hR := yes s2 q2
      wp_walk
      simpa using hR
    · subst hr
      wp_walk
      exact ⟨rfl, i + 1, hrest, hlt, q2⟩
  case fin =>
    rintro ⟨b1, b2⟩ s' ⟨hb', i, hz, hi, hI⟩
    simp only at hb'
    subst hb'
    have hge : items.size ≤ i := by
      rcases Nat.lt_or_ge i items.size with h' | h'
      · rw [List.drop_eq_getElem_cons (by simpa using h')] at hz; cases hz
      · exact h'
    have hi' : i = items.size := Nat.le_antisymm hi hge
    have hR := fin s' (hi' ▸ hI)
    wp_walk
    simpa using hR
  case h =>
    exact ⟨rfl, 0, rfl, Nat.zero_le _, h0⟩
theorem in_of {prog : Program} {w : World} {A : Around} {E : Value → Shared → Prop} {s : Shared} {T id : String} {B : Builtin} {c x : Value} {Q : Value → Shared → Prop} (neg : Bool) (hT : s.TypeIs c T) (slot : Slot T "__contains__" id) (entry : entryFor table id = some B) (args : argsOk id ⟨[c, x], []⟩)
    (h : wpAny (model prog w) A.in1 (B ⟨[c, x], []⟩) (GQ.FinOf prog w A (wants (fun v s' => ∃ b, v = .bool b ∧ Q (.bool (if neg then !b else b)) s') E)) (fun e s' => wants (fun v s' => ∃ b, v = .bool b ∧ Q (.bool (if neg then !b else b)) s') E (.error e) s') s) :
    wpAny (model prog w) A (compareOp (if neg then .NotIn else .In) x c) Q E s := by
  have g : wpAny (model prog w) A (contains c x) (fun b s' => Q (.bool (if neg then !b else b)) s') E s := wpAny_contains_slot hT slot (wpAny_mono (GQ.call_here slot hT entry args h) (fun v s' hv => by
    obtain ⟨b, rfl, hq⟩ := hv
    exact wpAny_truthy_bool hq) fun _ _ e => e)
  cases neg with
  | true =>
    show wpAny _ A (do return .bool (!(← contains c x))) Q E s
    exact wpAny_bind (wpAny_mono g (fun b s' q => wpAny_pure q) fun _ _ e => e)
  | false =>
    show wpAny _ A (do return .bool (← contains c x)) Q E s
    exact wpAny_bind (wpAny_mono g (fun b s' q => wpAny_pure q) fun _ _ e => e)
/-- x in y, y a list or a tuple, by what == says of its items -/
def rInS (K : PySem.W.Frag) (ca : Nat → Addr) (neg : Bool) (S : Dat → Dat → Prop) : R2 := fun x y H Q => ∃ (po : Option (Addr × Addr)) (F : Addr → Prop) (d : Dat) (ds : List Dat), Okk ⟨K, ca, po⟩ F H ∧ Rv ⟨K, ca, po⟩ F H x d ∧ ((∃ (a : Addr) (vs : List V), y = .ref a ∧ H a = some (.lst vs) ∧ NPo ⟨K, ca, po⟩ a ∧ RvAll ⟨K, ca, po⟩ F H vs ds) ∨ Rv ⟨K, ca, po⟩ F H y (.tup ds)) ∧ (∀ e ∈ ds, S e d) ∧
  ∀ (b : Bool) F' H', (b = true ↔ d ∈ ds) → Ext ⟨K, ca, po⟩ F H F' H' → Q (.bl (if neg then !b else b)) H'
theorem op_inS {X : Cx} {ca : Nat → Addr} {n : Nat} {S : Dat → Dat → Prop} (neg : Bool) (h : EqS X ca n S) (hr : Room (n + 1) X.A) : OpR X (compareOp (if neg then .NotIn else .In)) (rInS X.K ca neg S) := by
  intro pins s σ H x y v u Q I rx ry hq
  obtain ⟨po, F, d, ds, ok, r1, r2, hs, q⟩ := hq
  have sb : L2.Sub X (n + 1) X.A := ⟨hr, rfl⟩
  rcases r2 with ⟨a, vs, rfl, hA, np, rr⟩ | r2
  · cases ry
    have keepL : ∀ {F' : Addr → Prop} {H' : Hp}, Ext ⟨X.K, ca, po⟩ F H F' H' → H' a = some (.lst vs) := fun x => x.kp a _ hA np
    obtain ⟨z, its, n0, r, hl, e⟩ := I.lstM hA
    refine in_of neg ⟨_, e, rfl⟩ PySem.F.slot_list_contains PySem.F.entry_list_contains (PySem.F.args_list_contains_2 _ _) ?_
    refine cnt_list (N := ds.length) (fun i s' => ∃ F' H', Inv X pins σ H' s' ∧ Ext ⟨X.K, ca, po⟩ F H F' H' ∧ ∀ j e, j < i → ds[j]? = some e → e ≠ d) (fun s' => ∃ F' H', Inv X pins σ H' s' ∧ Ext ⟨X.K, ca, po⟩ F H F' H' ∧ d ∈ ds) (fun i s' ⟨F1, H1, I1, x1, hj⟩ => ?_) (fun s' ⟨F1, H1, I1, x1, hj⟩ => ?_) (fun s' ⟨F1, H1, I1, x1, hj⟩ => ?_) ⟨F, H, I, .refl ok, fun j e hj => absurd hj (Nat.not_lt_zero j)⟩
    · obtain ⟨z, its, n0, r, hl, e⟩ := I1.lstM (keepL x1)
      have l1 : its.length = ds.length := by rw [← r.length, rr.length]
      refine ⟨its.toArray, n0, e, by rw [List.size_toArray, l1], fun h1 => ?_⟩
      have k1 : i < vs.length := by rw [r.length]; simpa using h1
      obtain ⟨u, hu, ru⟩ := r.get (List.getElem?_eq_getElem k1)
      have g1 : its[i]? = some its.toArray[i] := by
        have h1' : i < its.length := by simpa using h1
        rw [List.getElem?_eq_getElem h1'] <;> simp
      rw [g1] at hu
      rw [Option.some.inj hu]
      obtain ⟨d1, a1, b1⟩ := rr.getV (List.getElem?_eq_getElem k1)
      refine wpAny_mono (h po X.A.in1 pins s' σ F1 H1 _ _ d1 d _ _ sb.in1 I1 ru rx x1.ok (b1.sub (x1.sub ok)) (r1.sub (x1.sub ok)) (hs d1 (List.mem_of_getElem? a1))) (fun rb s2 q2 => ?_) fun _ _ x => x
      obtain ⟨hb, F2, H2, I2, x2⟩ := q2
      cases rb with
      | true => exact .inl ⟨rfl, F2, H2, I2, x1.trans ok x2, by rw [← hb.mp rfl]; exact List.mem_of_getElem? a1⟩
      | false =>
        refine .inr ⟨rfl, F2, H2, I2, x1.trans ok x2, fun j e lt he => ?_⟩
        by_cases z : j = i
        · subst z
          rw [a1] at he
          cases he
          exact fun z => absurd (hb.mpr z) (by decide)
        · exact hj j e (by omega) he
    · exact ⟨false, rfl, .bl _, H1, I1, rfl, q false F1 H1 ⟨fun z => (by cases z), fun z => by
        obtain ⟨j, e⟩ := List.mem_iff_getElem?.mp z
        exact absurd rfl (hj j d (List.getElem?_eq_some_iff.mp e).1 e)⟩ x1⟩
    · exact ⟨true, rfl, .bl _, H1, I1, rfl, q true F1 H1 ⟨fun _ => hj, fun _ => rfl⟩ x1⟩
  · cases r2 with
    | @tup a vs _ hA rr =>
      cases ry
      obtain ⟨its, r, e, z⟩ := I.tuple hA.sq
      have l1 : its.length = ds.length := by rw [← r.length, rr.length]
      obtain ⟨⟨cls, dd, data, sl⟩, ho, hc, n0, hd⟩ := id e
      simp only at hc hd
      subst hc hd
      refine in_of neg ⟨_, ho, rfl⟩ PySem.F.slot_tuple_contains PySem.F.entry_tuple_contains (PySem.F.args_tuple_contains_2 _ _) ?_
      refine cnt_tuple (fun i s' => ∃ F' H', Inv X pins σ H' s' ∧ Ext ⟨X.K, ca, po⟩ F H F' H' ∧ ∀ j e, j < i → ds[j]? = some e → e ≠ d) (fun s' => ∃ F' H', Inv X pins σ H' s' ∧ Ext ⟨X.K, ca, po⟩ F H F' H' ∧ d ∈ ds) (fun i h1 s' ⟨F1, H1, I1, x1, hj⟩ => ?_) (fun s' ⟨F1, H1, I1, x1, hj⟩ => ?_) (fun s' ⟨F1, H1, I1, x1, hj⟩ => ?_) ho ⟨F, H, I, .refl ok, fun j e hj => absurd hj (Nat.not_lt_zero j)⟩
      · have k1 : i < vs.length := by rw [r.length]; simpa using h1
        obtain ⟨u, hu, ru⟩ := r.get (List.getElem?_eq_getElem k1)
        have g1 : its[i]? = some its.toArray[i] := by
          have h1' : i < its.length := by simpa using h1
          rw [List.getElem?_eq_getElem h1'] <;> simp
        rw [g1] at hu
        rw [Option.some.inj hu]
        obtain ⟨d1, a1, b1⟩ := rr.getV (List.getElem?_eq_getElem k1)
        refine wpAny_mono (h po X.A.in1 pins s' σ F1 H1 _ _ d1 d _ _ sb.in1 I1 ru rx x1.ok (b1.sub (x1.sub ok)) (r1.sub (x1.sub ok)) (hs d1 (List.mem_of_getElem? a1))) (fun rb s2 q2 => ?_) fun _ _ x => x
        obtain ⟨hb, F2, H2, I2, x2⟩ := q2
        cases rb with
        | true => exact .inl ⟨rfl, F2, H2, I2, x1.trans ok x2, by rw [← hb.mp rfl]; exact List.mem_of_getElem? a1⟩
        | false =>
          refine .inr ⟨rfl, F2, H2, I2, x1.trans ok x2, fun j e lt he => ?_⟩
          by_cases z : j = i
          · subst z
            rw [a1] at he
            cases he
            exact fun z => absurd (hb.mpr z) (by decide)
          · exact hj j e (by omega) he
      · rw [List.size_toArray, l1] at hj
        exact ⟨false, rfl, .bl _, H1, I1, rfl, q false F1 H1 ⟨fun z => (by cases z), fun z => by
          obtain ⟨j, e⟩ := List.mem_iff_getElem?.mp z
          exact absurd rfl (hj j d (List.getElem?_eq_some_iff.mp e).1 e)⟩ x1⟩
      · exact ⟨true, rfl, .bl _, H1, I1, rfl, q true F1 H1 ⟨fun _ => hj, fun _ => rfl⟩ x1⟩
def kInS (neg : Bool) (S : Dat → Dat → Prop) : Dat → Dat → (Dat → Prop) → Prop := fun d y P => sQ y fun ds => (∀ e ∈ ds, S e d) ∧ ∀ b : Bool, (b = true ↔ d ∈ ds) → P (.bl (if neg then !b else b))
theorem rok_inS {K : PySem.W.Frag} {ca : Nat → Addr} {po : Option (Addr × Addr)} {S : Dat → Dat → Prop} {neg : Bool} : ROk ⟨K, ca, po⟩ Rv Pk Rv (rInS K ca neg S) (kInS neg S) := fun F H x y d e Q P ok r1 r2 q k => by
  cases e with
  | lst xs =>
    obtain ⟨a, vs, rfl, hA, np, rr⟩ := r2.lst ok
    obtain ⟨hs, q⟩ := (show (∀ e ∈ xs, S e d) ∧ _ from q)
    exact ⟨po, F, d, xs, ok, r1, .inl ⟨a, vs, rfl, hA, np, rr⟩, hs, fun b F' H' hb ex => k _ F' H' _ (q b hb) ex (.bl _)⟩
  | tup xs =>
    obtain ⟨hs, q⟩ := (show (∀ e ∈ xs, S e d) ∧ _ from q)
    cases r2 with
    | rv r2 => exact ⟨po, F, d, xs, ok, r1, .inr r2, hs, fun b F' H' hb ex => k _ F' H' _ (q b hb) ex (.bl _)⟩
  | _ => exact (show False from q).elim
/-- data that can be laid out, by == -/
def layS : Dat → Dat → Prop := fun d e => okE 64 d ∧ okE 64 e
theorem lay_eqS {X : Cx} {ca : Nat → Addr} : EqS X ca 1 layS := by
  intro po A pins s σ F H x y d e u v sb I rx ry ok r1 r2 hs
  obtain ⟨as, q1⟩ := Dp.reads I (pyD d) x u (lay_dp r1 hs.1.1) rx
  obtain ⟨bs, q2⟩ := Dp.reads I (pyD e) y v (lay_dp r2 hs.2.1) ry
  refine SeqAt.eqAt_reads (pyD d) (pyD e) A s u v as bs q1 q2 (SeqAt.canLay_of_shaped (okE_sh hs.1)) (SeqAt.canLay_of_shaped (okE_sh hs.2)) (SeqAt.room_of_shaped (okE_sh hs.1) sb.room.units) X.prog X.w X.xe _ ⟨lay_eqv d e hs.1.1 hs.2.1, F, H, I, .refl ok⟩
theorem op_ninL {X : Cx} {ca : Nat → Addr} {j : Nat} (hr : Room j X.A) (hk : 2 ≤ j) : OpR X (compareOp .NotIn) (rInS X.K ca true layS) := op_inS true lay_eqS (hr.mono hk)
/-- data that can be laid out reads in one way only -/
theorem FzT.uq {W : Wd} {F : Addr → Prop} {H : Hp} {a : Addr} {vs ws : List V} (hA : FzT W F H a vs) (hB : FzT W F H a ws) : vs = ws := by
  obtain ⟨_, o, e1, t1⟩ := hA
  obtain ⟨_, o2, e2, t2⟩ := hB
  rw [e1] at e2
  cases e2
  obtain ⟨_, _, rfl⟩ := t1
  obtain ⟨_, _, h2⟩ := t2
  cases h2
  rfl
mutual
theorem layD_uq {W : Wd} {F : Addr → Prop} {H : Hp} : ∀ {v : V} {d e : Dat}, Rv W F H v d → Rv W F H v e → layD d = true → layD e = true → d = e
  | _, _, _, .non, .non, _, _ => rfl
  | _, _, _, .bl _, .bl _, _, _ => rfl
  | _, _, _, .int _, .int _, _, _ => rfl
  | _, _, _, .str _, .str _, _, _ => rfl
  | _, _, _, .lst _ h1 r1, .lst _ h2 r2, l1, l2 => by
    rw [h1] at h2
    cases h2
    rw [lay_uqs r1 r2 l1 l2]
  | _, _, _, .tup h1 r1, .tup h2 r2, l1, l2 => by
    cases h1.uq h2
    rw [lay_uqs r1 r2 l1 l2]
  | _, _, _, .lst _ h1 _, .tup h2 _, _, _ => by
    obtain ⟨_, o, e, ⟨_, _, t⟩⟩ := h2
    rw [h1] at e
    cases e
    cases t
  | _, _, _, .tup h2 _, .lst _ h1 _, _, _ => by
    obtain ⟨_, o, e, ⟨_, _, t⟩⟩ := h2
    rw [h1] at e
    cases e
    cases t
  | _, _, _, .obj _ _ _ _, _, l, _ => nomatch l
  | _, _, _, .dK _ _ _, _, l, _ => nomatch l
  | _, _, _, .pool _, _, l, _ => nomatch l
  | _, _, _, .cell _, _, l, _ => nomatch l
  | _, _, _, _, .obj _ _ _ _, _, l => nomatch l
  | _, _, _, _, .dK _ _ _, _, l => nomatch l
  | _, _, _, _, .pool _, _, l => nomatch l
  | _, _, _, _, .cell _, _, l => nomatch l
theorem lay_uqs {W : Wd} {F : Addr → Prop} {H : Hp} : ∀ {vs : List V} {ds es : List Dat}, RvAll W F H vs ds → RvAll W F H vs es → layAll ds = true → layAll es = true → ds = es
  | _, _, _, .nil, .nil, _, _ => rfl
  | _, _, _, .cons (d := d) (ds := ds) a r, .cons (d := e) (ds := es) b q, l1, l2 => by
    have l1 : (layD d && layAll ds) = true := l1
    have l2 : (layD e && layAll es) = true := l2
    rw [Bool.and_eq_true] at l1 l2
    rw [layD_uq a b l1.1 l2.1, lay_uqs r q l1.2 l2.2]
end
theorem RvFs.uq {W : Wd} {F : Addr → Prop} {H : Hp} {fs : List (Str × V)} : ∀ {ks : List Str} {ds es : List Dat}, RvFs W F H fs ks ds → RvFs W F H fs ks es → layAll ds = true → layAll es = true → ds = es
  | _, _, _, .nil, .nil, _, _ => rfl
  | _, _, _, .cons (d := d) (ds := ds) e1 a r, .cons (d := e) (ds := es) e2 b q, l1, l2 => by
    have l1 : (layD d && layAll ds) = true := l1
    have l2 : (layD e && layAll es) = true := l2
    rw [Bool.and_eq_true] at l1 l2
    rw [e1] at e2
    cases e2
    rw [layD_uq a b l1.1 l2.1, RvFs.uq r q l1.2 l2.2]
/-- objects of one class with such fields read in one way only -/
theorem uq_obj {c : Nat} {asp : ASp} (hl : ∀ ds es P, asp [.obj c ds, .obj c es] P → layAll ds = true ∧ layAll es = true) : UQ (objS c asp) := fun W F H v d e ⟨⟨ds, es, h1, h2⟩, ha⟩ r1 r2 => by
  subst h1 h2
  obtain ⟨l1, l2⟩ := hl ds es _ ha
  cases r1 with
  | obj f hA rf no =>
    cases r2 with
    | obj f2 hB rg no2 =>
      rw [hA] at hB
      cases hB
      rw [RvFs.uq rf rg l1 l2]
end
def top (i : Nat) : Stmt := PySem.Challenge.pw_vouchdoor_k32_questions_of_doors.main.body.getD i (.Pass ⟨0, 0, 0, 0⟩)
local macro_rules | `(tactic| walk_at "hp") => `(tactic| first
  | (with_reducible assumption)
  | exact upd_same
  | (refine (upd_ne (by with_reducible assumption)).trans ?_; walk_at "hp"))
local macro_rules | `(tactic| walk_at "kit") => `(tactic| first
  | with_reducible exact kit_NoneType_tuple
  | with_reducible exact kit_NoneType_list
  | with_reducible exact kit_NoneType_bool
  | with_reducible exact kit_NoneType_int
  | with_reducible exact kit_NoneType_str
  | with_reducible exact kit_bool_tuple
  | with_reducible exact kit_bool_list
  | with_reducible exact kit_bool_bool
  | with_reducible exact kit_bool_int
  | with_reducible exact kit_bool_str
  | with_reducible exact kit_int_tuple
  | with_reducible exact kit_int_list
  | with_reducible exact kit_int_bool
  | with_reducible exact kit_int_int
  | with_reducible exact kit_int_str
  | with_reducible exact kit_str_tuple
  | with_reducible exact kit_str_list
  | with_reducible exact kit_str_bool
  | with_reducible exact kit_str_int
  | with_reducible exact kit_str_str
  | with_reducible exact kit_list_tuple
  | with_reducible exact kit_list_list
  | with_reducible exact kit_list_bool
  | with_reducible exact kit_list_int
  | with_reducible exact kit_list_str
  | with_reducible exact kit_tuple_tuple
  | with_reducible exact kit_tuple_list
  | with_reducible exact kit_tuple_bool
  | with_reducible exact kit_tuple_int
  | with_reducible exact kit_tuple_str)
local macro_rules | `(tactic| walk_at "ty") => `(tactic| first
  | with_reducible exact .base .non
  | with_reducible exact .base (.bl _)
  | with_reducible exact .base (.int _)
  | with_reducible exact .base (.str _)
  | exact .base (.lst (by walk_at "hp"))
  | exact .base (.tup (by walk_at "hp")))
local macro_rules | `(tactic| walk_at "sq") => `(tactic| first
  | (with_reducible assumption)
  | exact SqL.of (by walk_at "hp")
  | exact SqT.of (by walk_at "hp")
  | ((with_reducible refine (?_ : SqL _ _ _ _)); assumption)
  | ((with_reducible refine (?_ : SqT _ _ _ _)); assumption))
local macro_rules | `(tactic| walk_at "eq") => `(tactic| ((with_reducible refine (?_ : @Eq _ _ _)); rfl))
local macro_rules | `(tactic| walk_at "side") => `(tactic| first
  | (with_reducible assumption)
  | walk_at "eq"
  | ((with_reducible refine (?_ : _ ≤ sizeLine)); exact Nat.le_of_ble_eq_true rfl)
  | omega
  | (show (0 : Int) < _; omega)
  | ((with_reducible refine (?_ : SqL _ _ _ _)); walk_at "sq")
  | ((with_reducible refine (?_ : SqT _ _ _ _)); walk_at "sq")
  | ((with_reducible refine (?_ : _ = some _)); walk_at "hp")
  | ((with_reducible refine (?_ : tyV _ _ _ _)); exact Or.inl ⟨rfl, _, SqL.of (by walk_at "hp")⟩)
  | exact flat_ints _
  | ((with_reducible refine (?_ : Cls _ _)); assumption)
  | ((with_reducible refine (?_ : NoAttr _ _ _)); assumption)
  | ((with_reducible refine (?_ : List.length _ < 1000)); exact Nat.le_of_ble_eq_true rfl)
  | exact ⟨_, SqL.of (by walk_at "hp")⟩
  | exact ⟨_, SqT.of (by walk_at "hp")⟩
  | (show CMul _ _; first | (exact Or.inl ⟨by omega, by omega⟩) | (exact Or.inr ⟨by omega, by omega⟩))
  | (show CDiv _ _; exact ⟨by omega, by omega⟩)
  | (show CPow _ _; exact ⟨by decide, by decide, by decide⟩))
local macro_rules | `(tactic| walk_at "size") => `(tactic| exact len_size (by (try rw [List.length_map]); omega))
local macro_rules | `(tactic| walk_at "s") => `(tactic| first
  | refine ⟨propOnly (by walk_at "side"), ?_⟩
  | refine ⟨_, (by walk_at "eq"), ?_⟩
  | refine ⟨_, _, (by walk_at "eq"), (by walk_at "eq"), ?_⟩
  | refine ⟨_, _, (by walk_at "eq"), propOnly (by walk_at "side"), ?_⟩
  | refine ⟨_, _, (by walk_at "eq"), ?_⟩
  | refine ⟨_, _, _, _, (by walk_at "eq"), (by walk_at "eq"), (by walk_at "sq"), (by walk_at "eq"), ?_⟩
  | refine ⟨_, _, _, _, (by walk_at "eq"), (by walk_at "eq"), (by walk_at "hp"), (by walk_at "eq"), ?_⟩
  | refine ⟨_, _, (by walk_at "eq"), .inl (by walk_at "sq"), ?_⟩
  | refine ⟨_, _, (by walk_at "eq"), .inr (by walk_at "sq"), ?_⟩
  | refine ⟨_, _, _, _, _, (by walk_at "eq"), .ty _, (by walk_at "ty"), (by walk_at "kit"), ?_⟩
  | refine Or.inl ⟨_, (by walk_at "eq"), ?_⟩
  | refine ⟨_, _, _, (by walk_at "eq"), (by walk_at "eq"), (by walk_at "hp"), propOnly (by walk_at "size"), ?_⟩
  | refine ⟨_, _, _, (by walk_at "eq"), propOnly (by walk_at "side"), ?_⟩
  | refine ⟨_, _, _, _, (by walk_at "eq"), propOnly (by walk_at "side"), ?_⟩
  | refine ⟨_, _, _, _, _, (by walk_at "eq"), propOnly (by walk_at "side"), ?_⟩
  | refine ⟨_, _, _, _, _, _, (by walk_at "eq"), propOnly (by walk_at "side"), ?_⟩
  | refine ⟨_, _, _, (by walk_at "eq"), ?_⟩
  | refine ⟨_, _, _, _, (by walk_at "eq"), ?_⟩
  | ((with_reducible refine iteCT ?hc ?hr); case hc => rfl)
  | ((with_reducible refine iteCF ?hc ?hr); case hc => rfl))
local macro_rules | `(tactic| walk_at "go") => `(tactic| repeat walk_at "s")
abbrev s_is_prime : Stmt := top 2
theorem sc_is_prime : FnScope ["number", "divisor"] ["number"] (defScope s_is_prime) := ⟨rfl, rfl, rfl, by decide +kernel, rfl, by decide +kernel, by decide +kernel⟩
abbrev s_power : Stmt := top 3
theorem sc_power : FnScope ["base", "exponent", "modulus", "result", "square", "left"] ["base", "exponent", "modulus"] (defScope s_power) := ⟨rfl, rfl, rfl, by decide +kernel, rfl, by decide +kernel, by decide +kernel⟩
section
variable {P : Program} {w : World} {K : PySem.W.Frag} {mg : Str → Option Value} {base : Heap}
def Pr (n : Int) : Prop := 2 ≤ n ∧ ∀ d : Int, 2 ≤ d → d * d ≤ n → n % d ≠ 0
def spPower : Sp := fun vs H Q _ => ∃ a e m : Int, vs = [.int a, .int e, .int m] ∧ 0 ≤ e ∧ 0 < m ∧ m < 2147483648 ∧ Q (.int (a ^ e.toNat % m)) H
theorem ok_power {f : Addr} {fd : FuncData} (F : Fun K "power" "power" s_power f fd) : FnOk P w K mg base CX0 1 f fd ["base", "exponent", "modulus"] spPower := by
  refine F.ok sc_power (fun vs H Q E h => ?_) (fun cdv A outer s H vs Q E hr h => ?_)
  · obtain ⟨a, e, m, rfl, _⟩ := h
    rfl
  · obtain ⟨a, e, m, rfl, he, hm, hm2, q⟩ := h
    obtain ⟨n, rfl⟩ : ∃ n : Nat, e = n := ⟨e.toNat, by omega⟩
    rw [Int.toNat_natCast] at q
    refine ⟨_, (pss_cons (ps_set (i := 3) sc_power.nd rfl (.inl rfl) (pe_op op_mod pe_int (pv 2)))
      (pss_cons (ps_set (i := 4) sc_power.nd rfl (.inl rfl) (pe_op op_mod (pv 0) (pv 2)))
      (pss_cons (ps_set (i := 5) sc_power.nd rfl (.inl rfl) (pv 1))
      (pss_cons (ps_while PassesOwn.never (pt_cmpR op_gt (pv 5) pe_int (nomark _)) (pss_cons (ps_if (pt_cmpR op_eq (pe_op op_mod (pv 5) pe_int) pe_int (nomark _)) (pss_one (ps_set (i := 3) sc_power.nd rfl (.inl rfl) (pe_op op_mod (pe_op op_mul (pv 3) (pv 4)) (pv 2)))) pss_nil)
      (pss_cons (ps_set (i := 4) sc_power.nd rfl (.inl rfl) (pe_op op_mod (pe_op op_mul (pv 4) (pv 4)) (pv 2)))
      (pss_one (ps_set (i := 5) sc_power.nd rfl (.inl rfl) (pe_op op_fdiv (pv 5) pe_int))))))
      (pss_one (ps_ret (pv 3))))))), ?_⟩
    walk_at "go"
    have b1 := emod_bd (a := 1) hm
    have b2 := emod_bd (a := a) hm
    refine ⟨fun k σ H' => At (∃ (r s : Int) (l : Nat), σ = [some (.int a), some (.int n), some (.int m), some (.int r), some (.int s), some (.int l)] ∧ H' = H ∧ 0 ≤ r ∧ r < m ∧ 0 ≤ s ∧ s < m ∧ r * s ^ l % m = a ^ n % m ∧ l = k),
      ⟨n, .of ⟨_, _, _, rfl, rfl, b1.1, b1.2, b2.1, b2.2, ?_, rfl⟩⟩, ?_⟩
    · rw [← mul_emod_r, pow_emod, mul_emod_r, mul_emod_l, Int.one_mul]
    rintro k σ H' hW
    obtain ⟨r, s, l, rfl, rfl, r0, r1, s0, s1, e, rfl⟩ := hW.out
    have b3 := emod_bd (a := r * s) hm
    have b4 := emod_bd (a := s * s) hm
    walk_at "go"
    refine iteD (fun h => ?_) (fun h => ?_)
    · refine ⟨_, fun _ _ h => h, ?_⟩
      walk_at "go"
      refine iteD (fun o => ?_) (fun o => ?_)
      · have o' : l % 2 = 1 := by
          have := V.int.inj o
          omega
        walk_at "go"
        exact ⟨l / 2, by omega, .of ⟨r * s % m, s * s % m, l / 2, rfl, rfl, b3.1, b3.2, b4.1, b4.2, power_odd e o', rfl⟩⟩
      · have o' : ¬ l % 2 = 1 := fun z => o (congrArg V.int (by omega))
        walk_at "go"
        exact ⟨l / 2, by omega, .of ⟨r, s * s % m, l / 2, rfl, rfl, r0, r1, b4.1, b4.2, power_even e o', rfl⟩⟩
    · walk_at "go"
      have : l = 0 := by omega
      subst this
      rw [Int.pow_zero, Int.mul_one, Int.emod_eq_of_lt r0 r1] at e
      rw [e]
      exact q
def spIsPrime : Sp := fun vs H Q _ => ∃ n : Int, vs = [.int n] ∧ n < 1073741824 ∧ ∀ b : Bool, (b = true ↔ Pr n) → Q (.bl b) H
theorem ok_is_prime {f : Addr} {fd : FuncData} (F : Fun K "is_prime" "is_prime" s_is_prime f fd) : FnOk P w K mg base CX0 1 f fd ["number"] spIsPrime := by
  refine F.ok sc_is_prime (fun vs H Q E h => ?_) (fun cdv A outer s H vs Q E hr h => ?_)
  · obtain ⟨n, rfl, _⟩ := h
    rfl
  · obtain ⟨n, rfl, hn, q⟩ := h
    refine ⟨_, (pss_cons (ps_if (pt_cmpR op_lt (pv 0) pe_int (nomark _)) (pss_one (ps_ret pe_bl)) pss_nil)
      (pss_cons (ps_set (i := 1) sc_is_prime.nd rfl (.inl rfl) pe_int)
      (pss_cons (ps_while PassesOwn.never (pt_cmpR op_le (pe_op op_mul (pv 1) (pv 1)) (pv 0) (nomark _)) (pss_cons (ps_if (pt_cmpR op_eq (pe_op op_mod (pv 0) (pv 1)) pe_int (nomark _)) (pss_one (ps_ret pe_bl)) pss_nil)
      (pss_one (ps_aug (i := 1) sc_is_prime.nd rfl (.inl rfl) (pe_ifExp (pt_cmpR op_eq (pv 1) pe_int (nomark _)) pe_int pe_int) ip_add))))
      (pss_one (ps_ret pe_bl))))), ?_⟩
    walk_at "go"
    refine iteD (fun c => ?_) (fun c => ?_)
    · walk_at "go"
      exact q _ ⟨fun z => (by cases z), fun z => absurd z.1 (by omega)⟩
    walk_at "go"
    refine ⟨fun k σ H' => At (∃ d : Int, σ = [some (.int n), some (.int d)] ∧ H' = H ∧ 2 ≤ d ∧ (d = 2 ∨ d % 2 = 1) ∧ d ≤ n + 2 ∧ (∀ e : Int, 2 ≤ e → e < d → n % e ≠ 0) ∧ (n + 2 - d).toNat = k),
      ⟨_, .of ⟨2, rfl, rfl, by omega, .inl rfl, by omega, fun e h1 h2 => by omega, rfl⟩⟩, ?_⟩
    rintro k σ H' hW
    obtain ⟨d, rfl, rfl, h2, par, dn, hd, hk⟩ := hW.out
    walk_at "go"
    refine iteD (fun h => ?_) (fun h => ?_)
    · have dle : d ≤ n := by
        have := Int.mul_le_mul_of_nonneg_right h2 (show (0 : Int) ≤ d by omega)
        omega
      refine ⟨_, fun _ _ h => h, ?_⟩
      walk_at "go"
      refine iteD (fun o => ?_) (fun o => ?_)
      · walk_at "go"
        exact q _ ⟨fun z => (by cases z), fun z => absurd (V.int.inj o) (z.2 d h2 h)⟩
      · have o' : n % d ≠ 0 := fun z => o (congrArg V.int z)
        walk_at "go"
        refine iteD (fun c2 => ?_) (fun c2 => ?_)
        · have c2' : d = 2 := V.int.inj c2
          walk_at "go"
          refine ⟨(n + 2 - (d + 1)).toNat, by omega, .of ⟨d + 1, rfl, rfl, by omega, by omega, by omega, fun e h1 h2 => ?_, rfl⟩⟩
          have : e = d := by omega
          subst this
          exact o'
        · have c2' : d ≠ 2 := fun z => c2 (congrArg V.int z)
          walk_at "go"
          refine ⟨(n + 2 - (d + 2)).toNat, by omega, .of ⟨d + 2, rfl, rfl, by omega, by omega, by omega, fun e h1 h2 => ?_, rfl⟩⟩
          by_cases e1 : e < d
          · exact hd e h1 e1
          · by_cases e2 : e = d
            · subst e2
              exact o'
            · have e3 : e % 2 = 0 := by omega
              refine fun z => hd 2 (by omega) (by omega) ?_
              have := Int.dvd_trans (Int.dvd_of_emod_eq_zero e3) (Int.dvd_of_emod_eq_zero z)
              exact Int.emod_eq_zero_of_dvd this
    · walk_at "go"
      refine q _ ⟨fun _ => ⟨by omega, fun e h1 h3 => ?_⟩, fun _ => rfl⟩
      by_cases e1 : e < d
      · exact hd e h1 e1
      · have := Int.mul_le_mul (show d ≤ e by omega) (show d ≤ e by omega) (by omega) (by omega)
        omega
end
abbrev s__law_draw : Stmt := top 57
theorem sc__law_draw : FnScope ["pool", "size", "cell", "value"] ["pool", "size"] (defScope s__law_draw) := ⟨rfl, rfl, rfl, by decide +kernel, rfl, by decide +kernel, by decide +kernel⟩
def KeepP (p : Addr) (H H' : Hp) : Prop := ∀ b o, b ≠ p → H b = some o → H' b = some o
theorem KeepP.refl (p : Addr) (H : Hp) : KeepP p H H := fun _ _ _ h => h
theorem keepP_pool {H0 H : Hp} {p : Addr} {o u : HO} (s : KeepP p H0 H) (_h : H0 p = some u) (_hu : poolO u = true) : KeepP p H0 (upd H p o) := fun b x n e => by
  rw [upd_ne n]
  exact s b x n e
section
variable {P : Program} {w : World} {K : PySem.W.Frag} {mg : Str → Option Value} {base : Heap}
def spDrawP : Sp := fun vs H Q _ => ∃ (p c : Addr) (n : Int), vs = [.ref p, .int n] ∧ PoolAt H p c ∧ 0 < n ∧ n < 1073741824 ∧
  ∀ v H', 0 ≤ v → v < n → PoolAt H' p c → KeepP p H H' → Q (.int v) H'
set_option maxHeartbeats 1000000 in
theorem ok_law_drawP {f : Addr} {fd : FuncData} (F : Fun K "_law_draw" "_law_draw" s__law_draw f fd) (B : Blt mg) : FnOk P w K mg base CX0 1 f fd ["pool", "size"] spDrawP := by
  refine F.ok sc__law_draw (fun vs H Q E h => ?_) (fun cdv A outer s H vs Q E hr h => ?_)
  · obtain ⟨p, c, n, rfl, _⟩ := h
    rfl
  · obtain ⟨p, c, n, rfl, ⟨ns, i, m, t, b, z, h1, h2, i0, t0, t1⟩, n0, n1, q⟩ := h
    have hu := hu_of hr
    refine ⟨_, (C8.pss_cut (ps_if (PW.pt (pw_and (pt_cmpR op_le (pe_ix (kixl (K := K) rfl) (pv 0) pe_int (fun _ _ => rfl)) pe_int (nomark _)) (pw_and (pt_cmpR op_le (pe_ix (kixl (K := K) rfl) (pv 0) pe_int (fun _ _ => rfl)) pe_int (nomark _)) (pw_and1 (pt_cmpR op_lt (pe_ix (kixl (K := K) rfl) (pv 0) pe_int (fun _ _ => rfl)) (pe_callB (klen (K := K) rfl) (by rfl) B.len bt_len (pa_cons (pe_ix (kixl (K := K) rfl) (pv 0) pe_int (fun _ _ => rfl)) pa_nil)) (nomark _)))))) (pss_cons (ps_set (i := 2) sc__law_draw.nd rfl (.inl rfl) (pe_ix (kixl (K := K) rfl) (pe_ix (kixl (K := K) rfl) (pv 0) pe_int (fun _ _ => rfl)) (pe_ix (kixl (K := K) rfl) (pv 0) pe_int (fun _ _ => rfl)) (fun _ _ => rfl)))
      (pss_cons (ps_asg (pe_op op_add (pe_ix (kixl (K := K) rfl) (pv 0) pe_int (fun _ _ => rfl)) pe_int) (pg_sub (pv 0) pe_int set_list))
      (pss_cons (ps_asg (pe_op op_mod (pe_callTy call_int1 (by rfl) B.int bt_int (pa_cons (pe_op op_add (pe_op op_mul (pe_ix (kixl (K := K) rfl) (pv 0) pe_int (fun _ _ => rfl)) pe_int) (pv 2)) pa_nil)) pe_int) (pg_sub (pv 0) pe_int set_list))
      (pss_cons (ps_asg pe_int (pg_sub (pv 0) pe_int set_list))
      (pss_one (ps_if (pt_cmpR op_ge (pv 2) (pe_op op_pow pe_int pe_int) (nomark _)) (pss_one (ps_asg (pv 2) (pg_sub (pv 0) pe_int set_list))) pss_nil)))))) pss_nil)
      (pss_cons (ps_if (pt_cmpR op_gt (pe_ix (kixl (K := K) rfl) (pv 0) pe_int (fun _ _ => rfl)) pe_int (nomark _)) (pss_cons (ps_set (i := 3) sc__law_draw.nd rfl (.inl rfl) (pe_op op_mod (pe_callTy call_int1 (by rfl) B.int bt_int (pa_cons (pe_ix (kixl (K := K) rfl) (pv 0) pe_int (fun _ _ => rfl)) pa_nil)) (pv 1)))
      (pss_cons (ps_asg (pe_op op_fdiv (pe_ix (kixl (K := K) rfl) (pv 0) pe_int (fun _ _ => rfl)) (pv 1)) (pg_sub (pv 0) pe_int set_list))
      (pss_cons (ps_asg pe_int (pg_sub (pv 0) pe_int set_list))
      (pss_one (ps_ret (pv 3)))))) pss_nil)
      (pss_cons (ps_asg (pe_op op_sub (pe_ix (kixl (K := K) rfl) (pv 0) pe_int (fun _ _ => rfl)) pe_int) (pg_sub (pv 0) pe_int set_list))
      (pss_cons (ps_asg (pe_op op_mod (pe_callTy call_int1 (by rfl) B.int bt_int (pa_cons (pe_op op_add (pe_op op_mul (pe_ix (kixl (K := K) rfl) (pv 0) pe_int (fun _ _ => rfl)) pe_int) pe_int) pa_nil)) pe_int) (pg_sub (pv 0) pe_int set_list))
      (pss_one (ps_ret (pe_op op_mod (pe_op op_mod (pe_callTy call_int1 (by rfl) B.int bt_int (pa_cons (pe_op op_add (pe_op op_mul (pe_ix (kixl (K := K) rfl) (pv 0) pe_int (fun _ _ => rfl)) pe_int) pe_int) pa_nil)) pe_int) (pv 1)))))))), ?_⟩
    have ncp : c ≠ p := fun e => by
      rw [e, h1] at h2
      cases ns with
      | nil => cases h2
      | cons y ys => cases h2
    refine ⟨fun σ' H' => At (∃ (x : Option V) (i m t b : Int), σ' = [some (.ref p), some (.int n), x, none] ∧ H' p = some (.lst [.ref c, .int i, .int m, .int t, .int b, .int z]) ∧ H' c = some (.lst (ns.map V.int)) ∧ 0 ≤ i ∧ 0 ≤ t ∧ t < 2147483647 ∧ KeepP p H H'), ?_, ?_⟩
    · have out : ∃ (x : Option V) (i m t b : Int), (L2.start ["pool", "size", "cell", "value"] [.ref p, .int n]) = [some (.ref p), some (.int n), x, none] ∧ H p = some (.lst [.ref c, .int i, .int m, .int t, .int b, .int z]) ∧ H c = some (.lst (ns.map V.int)) ∧ 0 ≤ i ∧ 0 ≤ t ∧ t < 2147483647 ∧ KeepP p H H :=
        ⟨none, i, m, t, b, rfl, h1, h2, i0, t0, t1, KeepP.refl p H⟩
      walk_at "go"
      refine iteD (fun c1 => ?_) (fun c1 => ?_)
      · walk_at "go"
        refine iteD (fun c2 => ?_) (fun c2 => ?_)
        · walk_at "go"
          refine iteD (fun c3 => ?_) (fun c3 => ?_)
          · have c3' : i < (ns.length : Int) := by
              rw [List.length_map] at c3
              exact c3
            obtain ⟨y, ha⟩ : ∃ y, atI (ns.map V.int) i = some (.int y) := by
              have hlt : i.toNat < ns.length := by omega
              refine ⟨ns[i.toNat], at_of (j := i.toNat) (by omega) ?_⟩
              rw [List.getElem?_map, List.getElem?_eq_getElem hlt]
              rfl
            walk_at "go"
            refine ⟨_, _, _, _, rfl, rfl, SqL.of h2, ha, ?_⟩
            walk_at "go"
            have fin : ∀ (mm : Int) (H' : Hp) (hp : H' p = some (.lst [.ref c, .int (i + 1), .int mm, .int ((t * 31 + y) % 2147483647), .int 7, .int z])) (hc : H' c = some (.lst (ns.map V.int))) (hk : KeepP p H H'),
                ∃ (x : Option V) (i m t b : Int), ((L2.start ["pool", "size", "cell", "value"] [.ref p, .int n]).set 2 (some (V.int y))) = [some (.ref p), some (.int n), x, none] ∧ H' p = some (.lst [.ref c, .int i, .int m, .int t, .int b, .int z]) ∧ H' c = some (.lst (ns.map V.int)) ∧ 0 ≤ i ∧ 0 ≤ t ∧ t < 2147483647 ∧ KeepP p H H' :=
              fun mm H' hp hc hk => ⟨_, i + 1, mm, _, 7, rfl, hp, hc, by omega, by omega, by omega, hk⟩
            refine iteD (fun c4 => ?_) (fun c4 => ?_)
            · walk_at "go"
              exact .of (fin _ _ upd_same (by rw [upd_ne ncp, upd_ne ncp, upd_ne ncp, upd_ne ncp]; exact h2) (keepP_pool (keepP_pool (keepP_pool (keepP_pool (KeepP.refl p H) h1 rfl) h1 rfl) h1 rfl) h1 rfl))
            · walk_at "go"
              exact .of (fin _ _ upd_same (by rw [upd_ne ncp, upd_ne ncp, upd_ne ncp]; exact h2) (keepP_pool (keepP_pool (keepP_pool (KeepP.refl p H) h1 rfl) h1 rfl) h1 rfl))
          · walk_at "go"
            exact .of out
        · walk_at "go"
          exact .of out
      · walk_at "go"
        exact .of out
    · intro σ' H' hW
      obtain ⟨x, i, m, t, b, rfl, h1', h2', i0, t0, t1, hk⟩ := hW.out
      have fin : ∀ (v : Int) (mm tt bb : Int) (H2 : Hp), 0 ≤ v → v < n → H2 p = some (.lst [.ref c, .int i, .int mm, .int tt, .int bb, .int z]) → H2 c = some (.lst (ns.map V.int)) → 0 ≤ tt → tt < 2147483647 → KeepP p H H2 → Q (.int v) H2 :=
        fun v mm tt bb H2 v0 v1 a1 a2 a3 a4 a5 => q v H2 v0 v1 ⟨ns, i, mm, tt, bb, z, a1, a2, i0, a3, a4⟩ a5
      walk_at "go"
      refine iteD (fun c1 => ?_) (fun c1 => ?_)
      · walk_at "go"
        exact fin _ _ _ _ _ (Int.emod_nonneg _ (by omega)) (Int.emod_lt_of_pos _ n0) upd_same (by rw [upd_ne ncp, upd_ne ncp]; exact h2') t0 t1 (keepP_pool (keepP_pool hk h1 rfl) h1 rfl)
      · walk_at "go"
        exact fin _ _ _ _ _ (Int.emod_nonneg _ (by omega)) (Int.emod_lt_of_pos _ n0) upd_same (by rw [upd_ne ncp, upd_ne ncp]; exact h2') (by omega) (by omega) (keepP_pool (keepP_pool hk h1 rfl) h1 rfl)
end
local macro_rules | `(tactic| walk_at "sd") => `(tactic| first
  | (with_reducible assumption)
  | rfl
  | omega
  | (show CMul _ _; first | (exact Or.inl ⟨by omega, by omega⟩) | (exact Or.inr ⟨by omega, by omega⟩))
  | (show CDiv _ _; exact ⟨by omega, by omega⟩)
  | (show CPow _ _; exact ⟨by decide, by decide, by decide⟩)
  | (show (0 : Int) < _; omega))
local macro_rules | `(tactic| walk_at "nf") => `(tactic| simp only [List.map_cons, List.map_nil, List.cons_append, List.nil_append, List.length_cons, List.length_nil, Nat.reduceAdd, Nat.reduceSub, List.replicate_succ, List.replicate_zero, List.set_cons_zero, List.set_cons_succ, gA])
abbrev s_Group___init__ : Stmt := inClass (top 36) 0
theorem sc_Group___init__ : FnScope ["self", "p", "q", "bases"] ["self", "p", "q", "bases"] (defScope s_Group___init__) := ⟨rfl, rfl, rfl, by decide +kernel, rfl, by decide +kernel, by decide +kernel⟩
abbrev s_Group_raised : Stmt := inClass (top 36) 3
theorem sc_Group_raised : FnScope ["self", "element", "exponent"] ["self", "element", "exponent"] (defScope s_Group_raised) := ⟨rfl, rfl, rfl, by decide +kernel, rfl, by decide +kernel, by decide +kernel⟩
abbrev s_Group_product : Stmt := inClass (top 36) 4
theorem sc_Group_product : FnScope ["self", "pairs", "result", "element", "exponent"] ["self", "pairs"] (defScope s_Group_product) := ⟨rfl, rfl, rfl, by decide +kernel, rfl, by decide +kernel, by decide +kernel⟩
abbrev s__is_root : Stmt := top 37
theorem sc__is_root : FnScope ["p", "q", "number"] ["p", "q", "number"] (defScope s__is_root) := ⟨rfl, rfl, rfl, by decide +kernel, rfl, by decide +kernel, by decide +kernel⟩
abbrev s__check_primes : Stmt := top 38
theorem sc__check_primes : FnScope ["p", "q"] ["p", "q"] (defScope s__check_primes) := ⟨rfl, rfl, rfl, by decide +kernel, rfl, by decide +kernel, by decide +kernel⟩
abbrev s__check_bases : Stmt := top 39
theorem sc__check_bases : FnScope ["p", "q", "bases", "index", "base"] ["p", "q", "bases"] (defScope s__check_bases) := ⟨rfl, rfl, rfl, by decide +kernel, rfl, by decide +kernel, by decide +kernel⟩
structure Glb (mg : Str → Option Value) : Prop where
  SMALLEST_P : ∃ t, mg "SMALLEST_P" = some (.int 3 t)
  LARGEST_P : ∃ t, mg "LARGEST_P" = some (.int 1000000 t)
  FEWEST_BASES : ∃ t, mg "FEWEST_BASES" = some (.int 2 t)
  MOST_BASES : ∃ t, mg "MOST_BASES" = some (.int 12 t)
section
variable {P : Program} {w : World} {K : PySem.W.Frag} {mg : Str → Option Value} {base : Heap}
def rz (p q e k : Int) : Int := e ^ (k % q).toNat % p
def prF (p q : Int) : Int → List (Int × Int) → Int
  | a, [] => a
  | a, (e, k) :: r => prF p q (a * rz p q e k % p) r
def prZ (p q : Int) (l : List (Int × Int)) : Int := prF p q 1 l
theorem prF_snoc (p q : Int) : ∀ (l : List (Int × Int)) (a e k : Int), prF p q a (l ++ [(e, k)]) = prF p q a l * rz p q e k % p
  | [], _, _, _ => rfl
  | (e', k') :: r, a, e, k => prF_snoc p q r _ e k
theorem prF_bd {p q : Int} (h : 1 < p) : ∀ (l : List (Int × Int)) (a : Int), 0 ≤ a → a < p → 0 ≤ prF p q a l ∧ prF p q a l < p
  | [], a, h0, h1 => ⟨h0, h1⟩
  | (e, k) :: r, a, h0, h1 => by
    have := emod_bd (a := a * rz p q e k) (m := p) (by omega)
    exact prF_bd h r _ this.1 this.2
/-- e is an element, worked out -/
def El (p q n : Int) : Prop := 1 ≤ n ∧ n < p ∧ n ^ q.toNat % p = 1
def spRoot : Sp := fun vs H Q _ => ∃ p q n : Int, vs = [.int p, .int q, .int n] ∧ 0 < q ∧ 0 < p ∧ p < 2147483648 ∧ ∀ b : Bool, (b = true ↔ El p q n) → Q (.bl b) H
theorem ok_is_root {f : Addr} {fd : FuncData} (F : Fun K "_is_root" "_is_root" s__is_root f fd) (C_power : C8.Cal P w K mg base 1 "power" spPower []) : FnOk P w K mg base CX0 2 f fd ["p", "q", "number"] spRoot := by
  refine F.ok sc__is_root (fun vs H Q E h => ?_) (fun cdv A outer s H vs Q E hr h => ?_)
  · obtain ⟨p, q, n, rfl, _⟩ := h
    rfl
  · obtain ⟨p, q, n, rfl, q0, p0, p1, z⟩ := h
    refine ⟨_, (pss_one (ps_ret (pe_and (pe_chain op_le op_lt pe_int (pv 2) (pv 0)) (pe_one (pe_cmpR op_eq (C8.pe_c C_power hr (by omega) rfl (pa_cons (pv 2) (pa_cons (pv 1) (pa_cons (pv 0) pa_nil)))) pe_int (nomark _)))))), ?_⟩
    walk_at "go"
    refine iteD (fun h1 => ?_) (fun h1 => ?_)
    · walk_at "go"
      refine iteD (fun h2 => ?_) (fun h2 => ?_)
      · walk_at "go"
        refine z _ ?_
        rw [decide_eq_true_eq]
        exact ⟨fun e => ⟨h1, h2, V.int.inj e⟩, fun e => congrArg V.int e.2.2⟩
      · walk_at "go"
        exact z _ ⟨fun e => (by cases e), fun e => absurd e.2.1 h2⟩
    · walk_at "go"
      exact z _ ⟨fun e => (by cases e), fun e => absurd e.1 h1⟩
/-- numbers that make a group -/
structure GOk (p q : Int) (bs : List Int) : Prop where
  p3 : 3 ≤ p
  pm : p ≤ 1000000
  pp : Pr p
  qp : Pr q
  dv : (p - 1) % q = 0
  l2 : 2 ≤ bs.length
  lm : bs.length ≤ 12
  el : ∀ b ∈ bs, b ≠ 1 ∧ El p q b
  nd : bs.Nodup
theorem GOk.q0 {p q : Int} {bs : List Int} (g : GOk p q bs) : 0 < q := by
  have := g.qp.1
  omega
theorem GOk.p0 {p q : Int} {bs : List Int} (g : GOk p q bs) : 1 < p := by
  have := g.p3
  omega
def spCheckPrimes : Sp := fun vs H Q _ => ∃ p q : Int, vs = [.int p, .int q] ∧ 3 ≤ p ∧ p ≤ 1000000 ∧ Pr p ∧ Pr q ∧ (p - 1) % q = 0 ∧ Q .non H
theorem ok_check_primes {f : Addr} {fd : FuncData} (F : Fun K "_check_primes" "_check_primes" s__check_primes f fd) (G : Glb mg) (C_is_prime : C8.Cal P w K mg base 1 "is_prime" spIsPrime []) : FnOk P w K mg base CX0 2 f fd ["p", "q"] spCheckPrimes := by
  refine F.ok sc__check_primes (fun vs H Q E h => ?_) (fun cdv A outer s H vs Q E hr h => ?_)
  · obtain ⟨p, q, rfl, _⟩ := h
    rfl
  · obtain ⟨p, q, rfl, p3, pm, pp, qp, dv, z⟩ := h
    have q2 := qp.1
    have ql := Int.le_of_dvd (show (0 : Int) < p - 1 by omega) (Int.dvd_of_emod_eq_zero dv)
    refine ⟨_, (pss_cons (ps_if (PW.pt (pw_or (pt_not (pt_chain op_le op_le (pe_gint G.SMALLEST_P) (pv 0) (pe_gint G.LARGEST_P))) (pw_or1 (pt_not (pt_val (C8.pe_c C_is_prime hr (by omega) rfl (pa_cons (pv 0) pa_nil))))))) (pss_one ps_never) pss_nil)
      (pss_one (ps_if (PW.pt (pw_or (pt_cmpR op_lt (pv 1) pe_int (nomark _)) (pw_or (pt_cmpR op_ne (pe_op op_mod (pe_op op_sub (pv 0) pe_int) (pv 1)) pe_int (nomark _)) (pw_or1 (pt_not (pt_val (C8.pe_c C_is_prime hr (by omega) rfl (pa_cons (pv 1) pa_nil)))))))) (pss_one ps_never) pss_nil))), ?_⟩
    walk_at "go"
    refine iteD (fun h1 => ?_) (fun h1 => absurd p3 h1)
    walk_at "go"
    rw [decide_eq_true pm]
    walk_at "go"
    intro b hb
    walk_at "go"
    rw [hb.mpr pp]
    walk_at "go"
    rw [decide_eq_false (show ¬ q < 2 by omega)]
    walk_at "go"
    rw [show decide (V.int ((p - 1) % q) = V.int 0) = true from decide_eq_true (congrArg V.int dv)]
    walk_at "go"
    intro b hb
    walk_at "go"
    rw [hb.mpr qp]
    walk_at "go"
    exact z
def spCheckBases (K : PySem.W.Frag) : Sp := fun vs H Q _ => ∃ (p q : Int) (b : Addr) (bs : List Int), vs = [.int p, .int q, .ref b] ∧ SqL K H b (bs.map V.int) ∧ GOk p q bs ∧ ∀ H', Same H H' → Q .non H'
theorem ok_check_bases {f : Addr} {fd : FuncData} (F : Fun K "_check_bases" "_check_bases" s__check_bases f fd) (G : Glb mg) (B : Blt mg) (C__is_root : C8.Cal P w K mg base 2 "_is_root" spRoot []) : FnOk P w K mg base CX0 3 f fd ["p", "q", "bases"] (spCheckBases K) := by
  refine F.ok sc__check_bases (fun vs H Q E h => ?_) (fun cdv A outer s H vs Q E hr h => ?_)
  · obtain ⟨p, q, b, bs, rfl, _⟩ := h
    rfl
  · obtain ⟨p, q, b, bs, rfl, hb, g, z⟩ := h
    have l2 := g.l2
    have lm := g.lm
    have q0 := g.q0
    have p0 := g.p0
    have pm := g.pm
    refine ⟨_, (pss_cons (ps_if (pt_not (pt_chain op_le op_le (pe_gint G.FEWEST_BASES) (pe_callB (klen (K := K) rfl) (by rfl) B.len bt_len (pa_cons (pv 2) pa_nil)) (pe_gint G.MOST_BASES))) (pss_one ps_never) pss_nil)
      (pss_one (ps_for PassesOwn.never rfl (pi_enum (by rfl) B.enumerate (pa_cons (pv 2) pa_nil)) (kgtup (K := K) (n := 2) rfl rfl (pgs_cons (pg_name (i := 3) sc__check_bases.nd rfl (.inl rfl)) (pgs_cons (pg_name (i := 4) sc__check_bases.nd rfl (.inl rfl)) pgs_nil)))
      (pss_one (ps_if (PW.pt (pw_or (pt_cmpR op_eq (pv 4) pe_int (nomark _)) (pw_or (pt_not (pt_val (C8.pe_c C__is_root hr (by omega) rfl (pa_cons (pv 0) (pa_cons (pv 1) (pa_cons (pv 4) pa_nil)))))) (pw_or1 (pt_cmpR (kin (K := K) rfl) (pv 4) (pe_slice (ksll (K := K) rfl) (pv 2) po_none (po_some (pv 3))) rfl))))) (pss_one ps_never) pss_nil))))), ?_⟩
    walk_at "go"
    rw [List.length_map, decide_eq_true (show (2 : Int) ≤ bs.length by omega)]
    walk_at "go"
    rw [decide_eq_true (show (bs.length : Int) ≤ 12 by omega)]
    walk_at "go"
    refine for_enum (xs := bs.map V.int) (fun i σ' H' => At (∃ y3 y4, σ' = [some (.int p), some (.int q), some (.ref b), y3, y4] ∧ Same H H')) (.of ⟨_, _, rfl, Same.refl H⟩) (fun i σ' H' hW => ?_) ?_ ?_
    · obtain ⟨_, _, _, k⟩ := hW.out
      exact k.seq hb
    · intro i x T σ' H' hx hW hT
      obtain ⟨y3, y4, rfl, k⟩ := hW.out
      obtain ⟨n, hn, rfl⟩ : ∃ n, bs[i]? = some n ∧ x = V.int n := by
        rw [List.getElem?_map] at hx
        cases e : bs[i]? with
        | none =>
          rw [e] at hx
          cases hx
        | some n =>
          rw [e] at hx
          exact ⟨n, rfl, (Option.some.inj hx).symm⟩
      have mn := List.mem_of_getElem? hn
      have el := g.el n mn
      have k2 := k.trans (same_new (o := .tup [.int (i : Nat), .int n]) hT)
      have hb2 := k2.seq hb
      walk_at "go"
      rw [decide_eq_false (show ¬ V.int n = V.int 1 from fun e => el.1 (V.int.inj e))]
      walk_at "go"
      intro b' hb'
      walk_at "go"
      rw [hb'.mpr el.2]
      walk_at "go"
      intro c hc
      have k3 := k2.trans (same_new (o := .lst (cutV (bs.map V.int) none (some (i : Int)))) hc)
      rw [cut_take, ← List.map_take] at k3 ⊢
      refine ⟨_, _, rfl, .inl (SqL.of upd_same), rfl, flat_ints _, ?_⟩
      rw [inV_ints, decide_eq_false (show ¬ n ∈ bs.take i from fun m => ?_)]
      · walk_at "go"
        exact .of ⟨some (.int (i : Nat)), some (.int n), rfl, k3⟩
      · have hi := (List.getElem?_eq_some_iff.mp hn)
        obtain ⟨j, hj, e⟩ := List.mem_iff_getElem.mp m
        rw [List.length_take] at hj
        rw [List.getElem_take] at e
        have := (List.getElem_inj g.nd).mp (e.trans hi.2.symm)
        omega
    · intro σ' H' hW
      obtain ⟨y3, y4, rfl, k⟩ := hW.out
      exact z _ k
end
def aspDraw : ASp := fun ds P => ∃ n : Int, ds = [.pool, .int n] ∧ 0 < n ∧ n < 1073741824 ∧ ∀ v : Int, 0 ≤ v → v < n → P (.int v)
theorem draw {n : Int} {P : Dat → Prop} (h0 : 0 < n) (h1 : n < 1073741824) (h : ∀ v : Int, 0 ≤ v → v < n → P (.int v)) : aspDraw [.pool, .int n] P := ⟨n, rfl, h0, h1, h⟩
theorem sp_draw {K : PySem.W.Frag} {ca : Nat → Addr} : ∀ vs H Q E, toSp K ca aspDraw vs H Q E → spDrawP vs H Q E := fun vs H Q E ⟨po, F, ds, P, ok, r, ⟨n, e, n0, n1, hp⟩, k⟩ => by
  subst e
  cases r with
  | cons r1 r2 =>
    cases r2 with
    | cons r2 r3 =>
      cases r3
      cases r2
      cases r1 with
      | @pool p c e =>
        obtain ⟨h1, h2, h3⟩ := ok.po p c e
        refine ⟨p, c, n, rfl, h1, n0, n1, fun v H' v0 v1 hP kp => k (.int v) F H' _ (hp v v0 v1) ⟨fun _ f => f, fun _ f => .inl f, fun a o ha np => kp a o (np p c e) ha, ⟨fun a f => ?_, fun p' c' e' => ?_⟩⟩ (.int v)⟩
        · cases ea : H a with
          | none => exact absurd ea (ok.tr a f)
          | some o =>
            rw [kp a o (ok.np f p c e) ea]
            exact fun z => by cases z
        · rw [e] at e'
          cases e'
          exact ⟨hP, h2, h3⟩
def aspPower : ASp := fun ds P => ∃ a e m : Int, ds = [.int a, .int e, .int m] ∧ 0 ≤ e ∧ 0 < m ∧ m < 2147483648 ∧ P (.int (a ^ e.toNat % m))
theorem sp_power {K : PySem.W.Frag} {ca : Nat → Addr} : ∀ vs H Q E, toSp K ca aspPower vs H Q E → spPower vs H Q E := fun vs H Q E ⟨po, F, ds, P, ok, r, ⟨a, e, m, ed, h1, h2, h3, hp⟩, k⟩ => by
  subst ed
  have ev : vs = [V.int a, .int e, .int m] := RvAll.ints (ns := [a, e, m]) r
  subst ev
  exact ⟨a, e, m, rfl, h1, h2, h3, k _ F H _ hp (.refl ok) (.int _)⟩
theorem mt_any {W : Wd} {H0 H1 : Hp} {F : Addr → Prop} {H : Hp} {σ : L2.St} {env : List Sl} (no : ∀ (i : Nat) (xs : List Dat), env[i]? ≠ some (.o xs)) (m : Mt W H0 F H σ env) : Mt W H1 F H σ env :=
  ⟨m.ln, fun i s e => by
    obtain ⟨ov, e1, r⟩ := m.at_ i s e
    refine ⟨ov, e1, ?_⟩
    cases s with
    | u => trivial
    | d x => exact r
    | o xs => exact absurd e (no i xs), fun i j xs ys a e1 => absurd e1 (no i xs)⟩
theorem mt_startI {W : Wd} {H1 : Hp} {F : Addr → Prop} {H : Hp} {N : List Str} {x : Addr} {vs : List V} {ds : List Dat} (r : RvAll W F H vs ds) (hl : ds.length + 1 ≤ N.length) :
    Mt W H1 F H (L2.start N (.ref x :: vs)) (.u :: (ds.map Sl.d ++ List.replicate (N.length - (ds.length + 1)) .u)) := by
  have m : Mt W H F H (L2.start (N.drop 1) vs) (ds.map Sl.d ++ List.replicate ((N.drop 1).length - ds.length) .u) := mt_start r (by rw [List.length_drop]; omega)
  have e1 : (N.drop 1).length - ds.length = N.length - (ds.length + 1) := by rw [List.length_drop]; omega
  have lv := r.length
  have e2 : L2.start N (.ref x :: vs) = some (.ref x) :: L2.start (N.drop 1) vs := by
    unfold L2.start
    rw [List.length_drop, List.length_cons]
    show some (V.ref x) :: (vs.map some ++ List.replicate (N.length - (vs.length + 1)) none) = _
    rw [show N.length - (vs.length + 1) = N.length - 1 - vs.length by omega]
  rw [e1] at m
  rw [e2]
  have no : ∀ (i : Nat) (xs : List Dat), (ds.map Sl.d ++ List.replicate (N.length - (ds.length + 1)) Sl.u)[i]? ≠ some (.o xs) := fun i xs e => by
    rcases List.mem_append.mp (List.mem_of_getElem? e) with h | h
    · obtain ⟨_, _, z⟩ := List.mem_map.mp h
      cases z
    · cases (List.mem_replicate.mp h).2
  refine ⟨congrArg (· + 1) m.ln, fun i s e => ?_, fun i j xs ys a e => ?_⟩
  · cases i with
    | zero =>
      cases e
      exact ⟨_, rfl, trivial⟩
    | succ i => exact (mt_any no m).at_ i s e
  · cases i with
    | zero => cases e
    | succ i => exact absurd e (no i xs)
theorem fn_init {K : PySem.W.Frag} {ca : Nat → Addr} {c : Nat} {asp : ASpI} {N : List Str} {vs : List V} {H : Hp} {Q : VK} {E : XK} {ts : TS} {ai : List Sl → (List Dat → Prop) → Prop} (h : toSpI K ca c asp vs H Q E) (hs : ∀ po, AIni ⟨K, ca, po⟩ c 0 ts ai)
    (hl : ∀ ds P, asp ds P → ds.length + 1 ≤ N.length) (hb : ∀ ds P, asp ds P → ai (.u :: (ds.map Sl.d ++ List.replicate (N.length - (ds.length + 1)) .u)) P) : ts { nx := fun _ H' => Q .non H', rt := Q } (L2.start N vs) H := by
  obtain ⟨po, F, H1, x, dx, ws, ds, P, rfl, rfl, hx, hdx, hne, ok, r, a, k⟩ := h
  have x1 : Ext ⟨K, ca, po⟩ F H1 F (upd H1 dx (.own x)) := Ext.lay ok hdx
  have hx1 : upd H1 dx (.own x) x = none := by rw [upd_ne (fun z => hne z.symm)]; exact hx
  have x2 : Ext ⟨K, ca, po⟩ F (upd H1 dx (.own x)) F (upd (upd H1 dx (.own x)) x (.ins (ca c) dx [])) := Ext.lay x1.ok hx1
  have x3 := x1.trans ok x2
  exact (hs po).run H1 x dx _ _ F F _ [] [] { nx := fun _ H' => Q .non H', rt := Q } P hx ok x3 (fun f => ok.tr x f hx) upd_same (Nat.le_refl _) (by rw [List.take_zero]; exact .nil) (fun m _ => rfl)
    (mt_startI (r.sub (x3.sub ok)) (hl ds P a)) rfl (hb ds P a) fun es F' H' σ' p e rv => k es F' H' p e rv
theorem sp_lenI {K : PySem.W.Frag} {ca : Nat → Addr} {c : Nat} {asp : ASpI} {n : Nat} (hn : ∀ ds P, asp ds P → ds.length = n) {vs : List V} {H : Hp} {Q : VK} {E : XK} (h : toSpI K ca c asp vs H Q E) : vs.length = n + 1 := by
  obtain ⟨po, F, H1, x, dx, ws, ds, P, rfl, rfl, hx, hdx, hne, ok, r, a, k⟩ := h
  rw [List.length_cons, r.length, hn ds P a]
/-- a call ahead of the attributes -/
def iDrop (ea : AEx) (ai : List Sl → (List Dat → Prop) → Prop) : List Sl → (List Dat → Prop) → Prop := fun env P => ea env fun _ => ai env P
theorem i_drop {W : Wd} {c k : Nat} {te : TE} {ea : AEx} {ts : TS} {ai : List Sl → (List Dat → Prop) → Prop} (he : ∀ H0, AExp W H0 te ea) (h2 : AIni W c k ts ai) : AIni W c k (tSeq (tDrop te) ts) (iDrop ea ai) :=
  ⟨fun H1 x dx σ env F1 F H fs ds De P hx ok1 b nf hX ln r no m s0 q kk => by
  refine (he H1).run σ env F H _ _ b.ok m q fun d F' H' v p x1 rv => ?_
  have hX' : H' x = some (.ins (W.ca c) dx fs) := x1.kp x _ hX fun p c e => (ok1.pne hx p c e).1
  have nf' : ¬ F' x := fun f => by
    rcases x1.dn x f with z | z
    · exact nf z
    · rw [z] at hX
      cases hX
  exact h2.run H1 x dx σ env F1 F' H' fs ds De P hx ok1 (b.trans ok1 x1) nf' hX' ln (r.sub (x1.sub b.ok)) no (m.ext b.ok x1) s0 p kk⟩
structure EqM (P : Program) (w : World) (K : PySem.W.Frag) (mg : Str → Option Value) (base : Heap) (k : Nat) (C : Addr) (sp : Sp) : Prop where
  ex : ∃ (f : Addr) (fd : FuncData) (ps : List Str), FnOk P w K mg base CX0 k f fd ps sp ∧ PySem.W.findIn K (.ref C) "__eq__" = some (some (.ref f)) ∧ PySem.W.isFn K (.ref f) = true ∧ Binds K fd ps []
theorem op_eqM {X : Cx} {n j : Nat} {C : Addr} {sp : Sp} (c : EqM X.prog X.w X.K X.mg X.base n C sp) (hr : Room j X.A) (hk : n ≤ j) : OpR X (compareOp .Eq) (rEqO C sp E0) := by
  obtain ⟨f, fd, ps, F, hs, hf, hb⟩ := c.ex
  exact op_eqO F hs hf hb pass0 (hr.mono hk)
/-- a list or a tuple -/
def sqD (k : Bool) (xs : List Dat) : Dat := match k with
  | true => .tup xs
  | false => .lst xs
theorem kQ_sq {k : Bool} {xs : List Dat} {P : List Dat → Prop} (h : P xs) : kQ k (sqD k xs) P := by
  cases k with
  | true => exact h
  | false => exact h
theorem sQ_sq {k : Bool} {xs : List Dat} {P : List Dat → Prop} (h : P xs) : sQ (sqD k xs) P := by
  cases k with
  | true => exact h
  | false => exact h
theorem sp_exI {κ : Type} {K : PySem.W.Frag} {ca : Nat → Addr} {c : Nat} {a : κ → ASpI} {vs : List V} {H : Hp} {Q : VK} {E : XK} (h : toSpI K ca c (fun ds P => ∃ k, a k ds P) vs H Q E) : ∃ k, toSpI K ca c (a k) vs H Q E := by
  obtain ⟨po, F, H1, x, dx, ws, ds, P, e1, e2, hx, hdx, hne, ok, r, ⟨k, a⟩, z⟩ := h
  exact ⟨k, po, F, H1, x, dx, ws, ds, P, e1, e2, hx, hdx, hne, ok, r, a, z⟩
def prT (x : Int × Int) : Dat := .tup [.int x.1, .int x.2]
structure GT (K : PySem.W.Frag) (C : Addr) : Prop where
  cl : Cls K C
  n_p : NoAttr K C "p"
  n_q : NoAttr K C "q"
  n_bases : NoAttr K C "bases"
def aspCheckPrimes : ASp := fun ds P => ∃ p q : Int, ds = [.int p, .int q] ∧ 3 ≤ p ∧ p ≤ 1000000 ∧ Pr p ∧ Pr q ∧ (p - 1) % q = 0 ∧ P .non
theorem sp_check_primes {K : PySem.W.Frag} {ca : Nat → Addr} : ∀ vs H Q E, toSp K ca aspCheckPrimes vs H Q E → spCheckPrimes vs H Q E := fun vs H Q E ⟨po, F, ds, P, ok, r, ⟨p, q, ed, h1, h2, h3, h4, h5, hp⟩, k⟩ => by
  subst ed
  have ev : vs = [V.int p, .int q] := RvAll.ints (ns := [p, q]) r
  subst ev
  exact ⟨p, q, rfl, h1, h2, h3, h4, h5, k _ F H _ hp (.refl ok) .non⟩
def aspCheckBases : ASp := fun ds P => ∃ (p q : Int) (bs : List Int), ds = [.int p, .int q, .lst (bs.map .int)] ∧ GOk p q bs ∧ P .non
theorem sp_check_bases {K : PySem.W.Frag} {ca : Nat → Addr} : ∀ vs H Q E, toSp K ca aspCheckBases vs H Q E → spCheckBases K vs H Q E := fun vs H Q E ⟨po, F, ds, P, ok, r, ⟨p, q, bs, ed, g, hp⟩, k⟩ => by
  subst ed
  cases r with
  | cons r1 r => cases r with
  | cons r2 r => cases r with
  | cons r3 r =>
    cases r
    cases r1
    cases r2
    cases r3 with
    | lst f h r =>
      have e := r.ints
      subst e
      exact ⟨p, q, _, bs, rfl, SqL.of h, g, fun H' s => k _ F H' _ hp (ext_same ok s) .non⟩
section
variable {P : Program} {w : World} {K : PySem.W.Frag} {mg : Str → Option Value} {base : Heap} {ca : Nat → Addr}
def aspGroupI : ASpI := fun ds P => ∃ (p q : Int) (bs : List Int), ds = [.int p, .int q, .lst (bs.map .int)] ∧ GOk p q bs ∧ P [.int p, .int q, .tup (bs.map .int)]
theorem ok_group_init {f : Addr} {fd : FuncData} (F : Fun K "__init__" "Group.__init__" s_Group___init__ f fd) (T0 : GT K (ca 0)) (B : Blt mg) (C__check_primes : C8.Cal P w K mg base 2 "_check_primes" (toSp K ca aspCheckPrimes) []) (C__check_bases : C8.Cal P w K mg base 3 "_check_bases" (toSp K ca aspCheckBases) []) :
    FnOk P w K mg base CX0 4 f fd ["self", "p", "q", "bases"] (toSpI K ca 0 aspGroupI) := by
  refine F.ok sc_Group___init__ (fun vs H Q E h => sp_lenI (n := 3) (fun ds P a => by obtain ⟨_, _, _, rfl, _⟩ := a; rfl) h) (fun cdv A outer s H vs Q E hr h => ⟨_, (pss_cons (ps_expr (C8.pe_c C__check_primes hr (by omega) rfl (pa_cons (pv 1) (pa_cons (pv 2) pa_nil))))
      (pss_cons (ps_expr (C8.pe_c C__check_bases hr (by omega) rfl (pa_cons (pv 1) (pa_cons (pv 2) (pa_cons (pv 3) pa_nil)))))
      (pss_cons (ps_fld (pv 0) (pv 1) rfl)
      (pss_cons (ps_fld (pv 0) (pv 2) rfl)
      (pss_cons (ps_fld (pv 0) (pe_callTy (ktupF (K := K) rfl) (by rfl) B.tuple bt_tuple (pa_cons (pv 3) pa_nil)) rfl) pss_nil))))),
    fn_init h (fun po => (i_drop (fun _ => (a_call (a_cons a_var (a_cons a_var a_nil)))) (i_drop (fun _ => (a_call (a_cons a_var (a_cons a_var (a_cons a_var a_nil))))) (i_cons T0.cl T0.n_p (k := 0) rfl (by decide) (by decide) (fun _ => a_var) (i_cons T0.cl T0.n_q (k := 1) rfl (by decide) (by decide) (fun _ => a_var) (i_cons T0.cl T0.n_bases (k := 2) rfl (by decide) (by decide) (fun _ => (a_b1 u_tupOf (a_pk a_var))) i_nil)))))) (fun ds P a => by obtain ⟨_, _, _, rfl, _⟩ := a; exact Nat.le_of_ble_eq_true rfl) ?_⟩)
  rintro ds P ⟨p, q, bs, rfl, g, hp⟩
  exact ⟨p, q, rfl, g.p3, g.pm, g.pp, g.qp, g.dv, p, q, bs, rfl, g, hp⟩
def aspRaised : ASp := fun ds P => ∃ (e k p q : Int) (bs : List Int), ds = [grpD p q bs, .int e, .int k] ∧ 0 < q ∧ 0 < p ∧ p < 2147483648 ∧ P (.int (rz p q e k))
theorem ok_raised {f : Addr} {fd : FuncData} (F : Fun K "raised" "Group.raised" s_Group_raised f fd) (T0 : GT K (ca 0)) (C_power : C8.Cal P w K mg base 1 "power" (toSp K ca aspPower) []) : FnOk P w K mg base CX0 2 f fd ["self", "element", "exponent"] (toSp K ca aspRaised) := by
  refine F.ok sc_Group_raised (fun vs H Q E h => sp_len (n := 3) (fun ds P a => by obtain ⟨_, _, _, _, _, rfl, _⟩ := a; rfl) h) (fun cdv A outer s H vs Q E hr h => ⟨_, (pss_one (ps_ret (C8.pe_c C_power hr (by omega) rfl (pa_cons (pv 1) (pa_cons (pe_op op_mod (pv 2) (kfld (K := K) rfl (pv 0))) (pa_cons (kfld (K := K) rfl (pv 0)) pa_nil)))))),
    fn_run h (fun po => (s_ret fun _ => (a_call (a_cons a_var (a_cons (a_op pst_rv rok_I a_var (a_fld T0.cl T0.n_q (c := 0) (i := 1) rfl a_var)) (a_cons (a_fld T0.cl T0.n_p (c := 0) (i := 0) rfl a_var) a_nil)))))) (fun ds P a => by obtain ⟨_, _, _, _, _, rfl, _⟩ := a; exact Nat.le_of_ble_eq_true rfl) ?_⟩)
  rintro ds P ⟨e, k, p, q, bs, rfl, q0, p0, p1, hp⟩
  have bd := emod_bd (a := k) q0
  exact ⟨rfl, ⟨propOnly (by walk_at "sd"), ⟨rfl, ⟨_, _, _, rfl, by omega, p0, p1, hp⟩⟩⟩⟩
def aspProduct : ASp := fun ds P => ∃ (p q : Int) (bs : List Int) (prs : List (Int × Int)), ds = [grpD p q bs, .lst (prs.map prT)] ∧ 0 < q ∧ 1 < p ∧ p < 2147483648 ∧ P (.int (prZ p q prs))
theorem ok_product {f : Addr} {fd : FuncData} (F : Fun K "product" "Group.product" s_Group_product f fd) (T0 : GT K (ca 0)) (M_raised : C8.Met P w K mg base 2 (ca 0) "raised" (toSp K ca aspRaised) []) : FnOk P w K mg base CX0 3 f fd ["self", "pairs"] (toSp K ca aspProduct) := by
  refine F.ok sc_Group_product (fun vs H Q E h => sp_len (n := 2) (fun ds P a => by obtain ⟨_, _, _, _, rfl, _⟩ := a; rfl) h) (fun cdv A outer s H vs Q E hr h => ⟨_, (pss_cons (ps_set (i := 2) sc_Group_product.nd rfl (.inl rfl) pe_int)
      (pss_cons (ps_for PassesOwn.never rfl (kpil (K := K) rfl (pv 1)) (kgtup (K := K) (n := 2) rfl rfl (pgs_cons (pg_name (i := 3) sc_Group_product.nd rfl (.inl rfl)) (pgs_cons (pg_name (i := 4) sc_Group_product.nd rfl (.inl rfl)) pgs_nil)))
      (pss_one (ps_set (i := 2) sc_Group_product.nd rfl (.inl rfl) (pe_op op_mod (pe_op op_mul (pv 2) (C8.pe_mt M_raised hr (by omega) (pv 0) (pa_cons (pv 3) (pa_cons (pv 4) pa_nil)))) (kfld (K := K) rfl (pv 0))))))
      (pss_one (ps_ret (pv 2))))),
    fn_run h (fun po => (s_seq (s_set fun _ => a_int)
      (s_seq (s_for (vs := [3, 4]) (fun _ => (i_list a_var)) (fun _ => (g_tup (g_cons (g_name (by decide)) (g_cons (g_name (by decide)) g_nil tot_name) tot_name)))
      (s_set fun _ => (a_op pst_rv rok_I (a_op pst_rv rok_I a_var (a_meth (by decide) a_var (a_cons a_var (a_cons a_var a_nil)))) (a_fld T0.cl T0.n_p (c := 0) (i := 0) rfl a_var))))
      (s_ret fun _ => a_var)))) (fun ds P a => by obtain ⟨_, _, _, _, rfl, _⟩ := a; exact Nat.le_of_ble_eq_true rfl) ?_⟩)
  rintro ds P ⟨p, q, bs, prs, rfl, q0, p0, p1, hp⟩
  refine forA_map (fun i env => ∃ y3 y4, env = [.d (grpD p q bs), .d (.lst (prs.map prT)), .d (.int (prF p q 1 (prs.take i))), y3, y4]) ⟨_, _, rfl⟩ ?_ ?_
  · rintro i ⟨e, k⟩ env hi ⟨y3, y4, rfl⟩ N hN
    have bd := prF_bd (q := q) p0 (prs.take i) 1 (by omega) p0
    have be := emod_bd (a := e ^ (k % q).toNat) (m := p) (by omega)
    refine ⟨rfl, e, k, p, q, bs, rfl, q0, by omega, p1, ?_⟩
    refine ⟨propOnly (by walk_at "sd"), ⟨rfl, ⟨propOnly (by walk_at "sd"), hN _ ⟨.d (.int e), .d (.int k), ?_⟩⟩⟩⟩
    rw [List.take_add_one, hi]
    show _ = [_, _, Sl.d (.int (prF p q 1 (prs.take i ++ [(e, k)]))), _, _]
    rw [prF_snoc]
    rfl
  · rintro env ⟨y3, y4, rfl⟩
    show P (.int (prF p q 1 (prs.take prs.length)))
    rw [List.take_length]
    exact hp
end
abbrev s_Statement___init__ : Stmt := inClass (top 5) 0
theorem sc_Statement___init__ : FnScope ["self", "unknowns", "equations", "equation"] ["self", "unknowns", "equations"] (defScope s_Statement___init__) := ⟨rfl, rfl, rfl, by decide +kernel, rfl, by decide +kernel, by decide +kernel⟩
abbrev s_kept_statement : Stmt := top 6
theorem sc_kept_statement : FnScope ["equation", "element", "factors", "base", "unknown"] ["equation"] (defScope s_kept_statement) := ⟨rfl, rfl, rfl, by decide +kernel, rfl, by decide +kernel, by decide +kernel⟩
abbrev s__products : Stmt := top 8
theorem sc__products : FnScope ["group", "statement", "exponents", "table", "products", "_", "factors", "base", "unknown"] ["group", "statement", "exponents"] (defScope s__products) := ⟨rfl, rfl, rfl, by decide +kernel, rfl, by decide +kernel, by decide +kernel⟩
abbrev s_simulated : Stmt := top 9
theorem sc_simulated : FnScope ["group", "statement", "challenge", "replies", "products", "moves", "element", "_", "replied"] ["group", "statement", "challenge", "replies"] (defScope s_simulated) := ⟨rfl, rfl, rfl, by decide +kernel, rfl, by decide +kernel, by decide +kernel⟩
structure ST (K : PySem.W.Frag) (C : Addr) : Prop where
  cl : Cls K C
  n_unknowns : NoAttr K C "unknowns"
  n_equations : NoAttr K C "equations"
/-- a factor: a base, the name of an unknown; an equation: an element, factors -/
abbrev Fac := Int × Str
abbrev Eqn := Int × List Fac
def fcD (x : Fac) : Dat := .tup [.int x.1, .str x.2]
def eqK (k : Bool) (x : Eqn) : Dat := .tup [.int x.1, sqD k (x.2.map fcD)]
def eqD (x : Eqn) : Dat := .tup [.int x.1, .tup (x.2.map fcD)]
def stO (us : List Str) (eqs : List Eqn) : Dat := .obj 1 [.tup (us.map .str), .tup (eqs.map eqD)]
/-- the number of an unknown -/
def look : List Str → List Int → Str → Int
  | u :: us, x :: xs, v => if u = v then x else look us xs v
  | _, _, _ => 0
/-- for each equation the product of its bases to the numbers of their unknowns -/
def side (p q : Int) (us : List Str) (xs : List Int) (e : Eqn) : Int := prZ p q (e.2.map fun f => (f.1, look us xs f.2))
def sides (p q : Int) (us : List Str) (eqs : List Eqn) (xs : List Int) : List Int := eqs.map (side p q us xs)
/-- names that are different, factors with them -/
structure StOk (us : List Str) (eqs : List Eqn) : Prop where
  nd : us.Nodup
  lu : us.length ≤ 100
  le : eqs.length ≤ 1000
  lf : ∀ e ∈ eqs, e.2.length ≤ 1000
  fu : ∀ e ∈ eqs, ∀ f ∈ e.2, f.2 ∈ us
  so : ∀ u ∈ us, PyData.strOk u = true
theorem dget_look : ∀ {us : List Str} {xs : List Int} {u : Str}, u ∈ us → us.length ≤ xs.length → dgetD ((us.map (Sum.inr : Str → Key)).zip (xs.map Dat.int)) (.inr u) = some (.int (look us xs u))
  | [], _, _, h, _ => by cases h
  | _ :: _, [], _, _, h => by cases h
  | v :: us, x :: xs, u, h, hl => by
    by_cases e : v = u
    · subst e
      simp [dgetD, List.find?_cons, look]
    · have h' := (List.mem_cons.mp h).resolve_left (fun z => e z.symm)
      have ih := dget_look h' (xs := xs) (by simpa using hl)
      have e1 : dgetD (((v :: us).map (Sum.inr : Str → Key)).zip ((x :: xs).map Dat.int)) (.inr u) = dgetD ((us.map (Sum.inr : Str → Key)).zip (xs.map Dat.int)) (.inr u) := by
        have ne : ¬ ((Sum.inr v : Key) = Sum.inr u) := fun z => e (Sum.inr.inj z)
        simp [dgetD, List.find?_cons, ne]
      rw [e1, ih]
      simp [look, e]
section
variable {P : Program} {w : World} {K : PySem.W.Frag} {mg : Str → Option Value} {base : Heap} {ca : Nat → Addr}
def aspKeptK (k : Bool) : ASp := fun ds P => ∃ x : Eqn, ds = [eqK k x] ∧ x.2.length ≤ 1000 ∧ P (eqD x)
def aspKept : ASp := fun ds P => ∃ k, aspKeptK k ds P
theorem ok_kept {f : Addr} {fd : FuncData} (F : Fun K "_kept" "_kept" s_kept_statement f fd) (B : Blt mg) : FnOk P w K mg base CX0 1 f fd ["equation"] (toSp K ca aspKept) := by
  refine F.ok sc_kept_statement (fun vs H Q E h => by obtain ⟨k, h⟩ := sp_ex h; exact sp_len (n := 1) (fun ds P a => by obtain ⟨_, rfl, _⟩ := a; rfl) h) (fun cdv A outer s H vs Q E hr h => ?_)
  obtain ⟨k, h⟩ := sp_ex h
  refine ⟨_, (pss_cons (ps_asg (pv 0) (kgtup (K := K) (n := 2) rfl rfl (pgs_cons (pg_name (i := 1) sc_kept_statement.nd rfl (.inl rfl)) (pgs_cons (pg_name (i := 2) sc_kept_statement.nd rfl (.inl rfl)) pgs_nil))))
      (pss_one (ps_ret (pe_tupF (pa_cons (pv 1) (pa_cons (pe_callTy (ktupF (K := K) rfl) (by rfl) B.tuple bt_tuple (pa_cons (pe_lc (own := [("base", 3), ("unknown", 4)]) (tt := tYes) rfl sc_kept_statement.nd (pi_K k (K := K) rfl (pv 2)) (blkOk_by (N := ["equation", "element", "factors", "base", "unknown"]) (sc := defScope s_kept_statement) (by decide +kernel))
        (fun _ _ _ _ _ => (kgtup (K := K) (n := 2) rfl rfl (pgs_cons (pg_name (i := 3) sc_kept_statement.nd rfl (.inl rfl)) (pgs_cons (pg_name (i := 4) sc_kept_statement.nd rfl (.inl rfl)) pgs_nil)))) (fun _ _ _ _ _ => pts_nil)
        (fun _ _ _ _ _ => (pe_tupF (pa_cons (pv 3) (pa_cons (pv 4) pa_nil))))) pa_nil)) pa_nil)))))),
    fn_run h (fun po => (s_seq (s_asg (vs := [1, 2]) (fun _ => a_var) (fun _ => (g_tup (g_cons (g_name (by decide)) (g_cons (g_name (by decide)) g_nil tot_name) tot_name))))
      (s_ret fun _ => (a_tup (a_cons a_var (a_cons (a_b1 u_tupOf (a_pk (a_fz (a_lc (vs := [3, 4]) (i_K a_var) (g_tup (g_cons (g_name (by decide)) (g_cons (g_name (by decide)) g_nil tot_name) tot_name)) a_yes (a_tup (a_cons a_var (a_cons a_var a_nil))))))) a_nil)))))) (fun ds P a => by obtain ⟨_, rfl, _⟩ := a; exact Nat.le_of_ble_eq_true rfl) ?_⟩
  rintro ds P ⟨⟨e, fs⟩, rfl, hl, hp⟩
  refine kQ_sq ⟨by rw [List.length_map]; omega, ?_⟩
  refine lcA_mapL (g := fcD) (fun x hx Q hQ => hQ) ?_
  exact hp
def aspStI3 (k1 k2 k3 : Bool) : ASpI := fun ds P => ∃ (us : List Str) (eqs : List Eqn), ds = [sqD k1 (us.map .str), sqD k2 (eqs.map (eqK k3))] ∧ eqs.length ≤ 1000 ∧ (∀ e ∈ eqs, e.2.length ≤ 1000) ∧ P [.tup (us.map .str), .tup (eqs.map eqD)]
def aspStI : ASpI := fun ds P => ∃ k1, ∃ k2, ∃ k3, aspStI3 k1 k2 k3 ds P
theorem ok_st_init {f : Addr} {fd : FuncData} (F : Fun K "__init__" "Statement.__init__" s_Statement___init__ f fd) (T1 : ST K (ca 1)) (B : Blt mg) (C_kept_statement : C8.Cal P w K mg base 1 "kept_statement" (toSp K ca aspKept) []) : FnOk P w K mg base CX0 2 f fd ["self", "unknowns", "equations"] (toSpI K ca 1 aspStI) := by
  refine F.ok sc_Statement___init__ (fun vs H Q E h => by obtain ⟨k1, h⟩ := sp_exI h; obtain ⟨k2, h⟩ := sp_exI h; obtain ⟨k3, h⟩ := sp_exI h; exact sp_lenI (n := 2) (fun ds P a => by obtain ⟨_, _, rfl, _⟩ := a; rfl) h) (fun cdv A outer s H vs Q E hr h => ?_)
  obtain ⟨k1, h⟩ := sp_exI h
  obtain ⟨k2, h⟩ := sp_exI h
  obtain ⟨k3, h⟩ := sp_exI h
  refine ⟨_, (pss_cons (ps_fld (pv 0) (pe_callTy (ktupF (K := K) rfl) (by rfl) B.tuple bt_tuple (pa_cons (pv 1) pa_nil)) rfl)
      (pss_cons (ps_fld (pv 0) (pe_callTy (ktupF (K := K) rfl) (by rfl) B.tuple bt_tuple (pa_cons (pe_lc (own := [("equation", 3)]) (g := gName 3) (tt := tYes) rfl sc_Statement___init__.nd (pi_K k2 (K := K) rfl (pv 2)) (blkOk_by (N := ["self", "unknowns", "equations", "equation"]) (sc := defScope s_Statement___init__) (by decide +kernel))
        (fun _ _ _ _ _ => (pg_name (i := 3) sc_Statement___init__.nd rfl (.inl rfl))) (fun _ _ _ _ _ => pts_nil)
        (fun _ _ _ _ _ => (C8.pe_c C_kept_statement hr (by omega) rfl (pa_cons (pv 3) pa_nil)))) pa_nil)) rfl) pss_nil)),
    fn_init h (fun po => (i_cons T1.cl T1.n_unknowns (k := 0) rfl (by decide) (by decide) (fun _ => (a_b1 u_tupOf (a_pk a_var))) (i_cons T1.cl T1.n_equations (k := 1) rfl (by decide) (by decide) (fun _ => (a_b1 u_tupOf (a_pk (a_fz (a_lc (vs := [3]) (i_K a_var) (g_name (by decide)) a_yes (a_call (a_cons a_var a_nil))))))) i_nil))) (fun ds P a => by obtain ⟨_, _, rfl, _⟩ := a; exact Nat.le_of_ble_eq_true rfl) ?_⟩
  rintro ds P ⟨us, eqs, rfl, hl, hf, hp⟩
  refine sQ_sq ?_
  refine kQ_sq ⟨by rw [List.length_map]; omega, ?_⟩
  refine lcA_mapL (g := eqD) (fun x hx Q hQ => ?_) ?_
  · exact ⟨k3, x, rfl, hf x hx, hQ⟩
  · exact hp
end
theorem zipD_map {α β : Type} (f : α → Dat) (g : β → Dat) : ∀ (xs : List α) (ys : List β), zipD (xs.map f) (ys.map g) = (xs.zip ys).map fun x => .tup [f x.1, g x.2]
  | [], _ => rfl
  | _ :: _, [] => rfl
  | x :: xs, y :: ys => congrArg (_ :: ·) (zipD_map f g xs ys)
section
variable {P : Program} {w : World} {K : PySem.W.Frag} {mg : Str → Option Value} {base : Heap} {ca : Nat → Addr}
theorem side_bd {p q : Int} (h : 1 < p) (us : List Str) (xs : List Int) (e : Eqn) : 0 ≤ side p q us xs e ∧ side p q us xs e < p := prF_bd h _ _ (by omega) h
theorem sides_snoc (p q : Int) (us : List Str) (eqs : List Eqn) (e : Eqn) (xs : List Int) : sides p q us (eqs ++ [e]) xs = sides p q us eqs xs ++ [side p q us xs e] := List.map_append
theorem take_snoc {α : Type} {xs : List α} {i : Nat} {x : α} (h : xs[i]? = some x) : xs.take (i + 1) = xs.take i ++ [x] := by
  rw [List.take_add_one, h]
  rfl
def aspProductsK (k : Bool) : ASp := fun ds P => ∃ (p q : Int) (bs : List Int) (us : List Str) (eqs : List Eqn) (xs : List Int), ds = [grpD p q bs, stO us eqs, sqD k (xs.map .int)] ∧ 0 < q ∧ 1 < p ∧ p < 2147483648 ∧ StOk us eqs ∧ us.length ≤ xs.length ∧ P (.lst ((sides p q us eqs xs).map .int))
def aspProducts : ASp := fun ds P => ∃ k, aspProductsK k ds P
theorem ok_products {f : Addr} {fd : FuncData} (F : Fun K "_products" "_products" s__products f fd) (T1 : ST K (ca 1)) (B : Blt mg) (M_product : C8.Met P w K mg base 3 (ca 0) "product" (toSp K ca aspProduct) []) : FnOk P w K mg base CX0 4 f fd ["group", "statement", "exponents"] (toSp K ca aspProducts) := by
  refine F.ok sc__products (fun vs H Q E h => by obtain ⟨k, h⟩ := sp_ex h; exact sp_len (n := 3) (fun ds P a => by obtain ⟨_, _, _, _, _, _, rfl, _⟩ := a; rfl) h) (fun cdv A outer s H vs Q E hr h => ?_)
  obtain ⟨k, h⟩ := sp_ex h
  refine ⟨_, (pss_cons (ps_set (i := 3) sc__products.nd rfl (.inr rfl) (pe_dictZip true k (K := K) rfl rfl (by rfl) B.dict (by rfl) B.zip (pa_cons (kfld (K := K) rfl (pv 1)) (pa_cons (pv 2) pa_nil))))
      (pss_cons (ps_set (i := 4) sc__products.nd rfl (.inl rfl) (pe_lst pa_nil))
      (pss_cons (ps_for PassesOwn.never rfl (kpit (K := K) rfl (kfld (K := K) rfl (pv 1))) (kgtup (K := K) (n := 2) rfl rfl (pgs_cons (pg_name (i := 5) sc__products.nd rfl (.inl rfl)) (pgs_cons (pg_name (i := 6) sc__products.nd rfl (.inl rfl)) pgs_nil)))
      (pss_one (ps_expr (pe_bm PySem.F.plainAttrs_list PySem.F.slot_list_append PySem.F.type_list_append mt_append (pv 4) (pa_cons (C8.pe_mt M_product hr (by omega) (pv 0) (pa_cons (pe_lc (own := [("base", 7), ("unknown", 8)]) (tt := tYes) rfl sc__products.nd (kpit (K := K) rfl (pv 6)) (blkOk_by (N := ["group", "statement", "exponents", "table", "products", "_", "factors", "base", "unknown"]) (sc := defScope s__products) (by decide +kernel))
        (fun _ _ _ _ _ => (kgtup (K := K) (n := 2) rfl rfl (pgs_cons (pg_name (i := 7) sc__products.nd rfl (.inl rfl)) (pgs_cons (pg_name (i := 8) sc__products.nd rfl (.inl rfl)) pgs_nil)))) (fun _ _ _ _ _ => pts_nil)
        (fun _ _ _ _ _ => (pe_tupF (pa_cons (pv 7) (pa_cons (pe_dget (hu_of hr) (pv 3) (pv 8) (fun _ _ => rfl)) pa_nil))))) pa_nil)) pa_nil)))))
      (pss_one (ps_ret (pv 4)))))),
    fn_run h (fun po => (s_seq (s_set fun _ => (a_dictZip (a_cons (a_fld T1.cl T1.n_unknowns (c := 1) (i := 0) rfl a_var) (a_cons a_var a_nil))))
      (s_seq (s_setO fun _ => (a_lst a_nil))
      (s_seq (s_for (vs := [5, 6]) (fun _ => (i_tup (a_fld T1.cl T1.n_equations (c := 1) (i := 1) rfl a_var))) (fun _ => (g_tup (g_cons (g_name (by decide)) (g_cons (g_name (by decide)) g_nil tot_name) tot_name)))
      (s_app fun _ => (a_meth (by decide) a_var (a_cons (a_fz (a_lc (vs := [7, 8]) (i_tup a_var) (g_tup (g_cons (g_name (by decide)) (g_cons (g_name (by decide)) g_nil tot_name) tot_name)) a_yes (a_tup (a_cons a_var (a_cons (a_dget a_var a_var) a_nil))))) a_nil))))
      (s_fz (i := 4) (s_ret fun _ => a_var)))))) (fun ds P a => by obtain ⟨_, _, _, _, _, _, rfl, _⟩ := a; exact Nat.le_of_ble_eq_true rfl) ?_⟩
  rintro ds P ⟨p, q, bs, us, eqs, xs, rfl, q0, p0, p1, so, hl, hp⟩
  refine ⟨rfl, kQ_sq (k := k) ⟨us, rfl, so.nd, ?_⟩⟩
  refine ⟨rfl, ?_⟩
  refine forA_map (fun i env => ∃ y5 y6, env = [.d (grpD p q bs), .d (stO us eqs), .d (sqD k (xs.map .int)), .d (.dK ((us.map Sum.inr).zip (xs.map .int))), .o ((sides p q us (eqs.take i) xs).map .int), y5, y6, .u, .u]) ⟨_, _, rfl⟩ ?_ ?_
  · rintro i e env hi ⟨y5, y6, rfl⟩ N hN
    have me := List.mem_of_getElem? hi
    have lt := (List.getElem?_eq_some_iff.mp hi).1
    have le := so.le
    refine ⟨by rw [List.length_map, sides, List.length_map, List.length_take]; omega, ⟨rfl, ?_⟩⟩
    refine ⟨by rw [List.length_map]; have := so.lf e me; omega, ?_⟩
    refine lcA_mapL (g := fun f => prT (f.1, look us xs f.2)) (fun x hx Q hQ => ?_) ?_
    · show oQ (dgetD _ _) _
      rw [dget_look (so.fu e me x hx) hl]
      exact hQ
    · refine ⟨p, q, bs, e.2.map fun f => (f.1, look us xs f.2), by rw [List.map_map]; rfl, q0, p0, p1, hN _ ⟨.d (.int e.1), .d (.tup (e.2.map fcD)), ?_⟩⟩
      rw [take_snoc hi, sides_snoc, List.map_append]
      rfl
  · rintro env ⟨y5, y6, rfl⟩
    show P (.lst ((sides p q us (eqs.take eqs.length) xs).map .int))
    rw [List.take_length]
    exact hp
/-- the numbers of the first move that replies fit to -/
def firsts (p q : Int) (us : List Str) (eqs : List Eqn) (c : Int) (rs : List Int) : List Int := eqs.map fun e => prZ p q [(side p q us rs e, 1), (e.1, -c)]
theorem firsts_snoc (p q : Int) (us : List Str) (eqs : List Eqn) (e : Eqn) (c : Int) (rs : List Int) : firsts p q us (eqs ++ [e]) c rs = firsts p q us eqs c rs ++ [prZ p q [(side p q us rs e, 1), (e.1, -c)]] := List.map_append
theorem zip_map_r {α β : Type} (f : α → β) : ∀ xs : List α, xs.zip (xs.map f) = xs.map fun x => (x, f x)
  | [] => rfl
  | x :: xs => congrArg (_ :: ·) (zip_map_r f xs)
def aspSimK (k : Bool) : ASp := fun ds P => ∃ (p q : Int) (bs : List Int) (us : List Str) (eqs : List Eqn) (c : Int) (rs : List Int), ds = [grpD p q bs, stO us eqs, .int c, sqD k (rs.map .int)] ∧ 0 < q ∧ 1 < p ∧ p < 2147483648 ∧ StOk us eqs ∧ us.length ≤ rs.length ∧ P (.tup ((firsts p q us eqs c rs).map .int))
def aspSim : ASp := fun ds P => ∃ k, aspSimK k ds P
theorem ok_simulated {f : Addr} {fd : FuncData} (F : Fun K "simulated" "simulated" s_simulated f fd) (T1 : ST K (ca 1)) (B : Blt mg) (C__products : C8.Cal P w K mg base 4 "_products" (toSp K ca aspProducts) []) (M_product : C8.Met P w K mg base 3 (ca 0) "product" (toSp K ca aspProduct) []) :
    FnOk P w K mg base CX0 5 f fd ["group", "statement", "challenge", "replies"] (toSp K ca aspSim) := by
  refine F.ok sc_simulated (fun vs H Q E h => by obtain ⟨k, h⟩ := sp_ex h; exact sp_len (n := 4) (fun ds P a => by obtain ⟨_, _, _, _, _, _, _, rfl, _⟩ := a; rfl) h) (fun cdv A outer s H vs Q E hr h => ?_)
  obtain ⟨k, h⟩ := sp_ex h
  refine ⟨_, (pss_cons (ps_set (i := 4) sc_simulated.nd rfl (.inl rfl) (C8.pe_c C__products hr (by omega) rfl (pa_cons (pv 0) (pa_cons (pv 1) (pa_cons (pv 3) pa_nil)))))
      (pss_cons (ps_set (i := 5) sc_simulated.nd rfl (.inl rfl) (pe_lst pa_nil))
      (pss_cons (ps_for PassesOwn.never rfl (pi_zipF true false (K := K) rfl (by rfl) B.zip (pa_cons (kfld (K := K) rfl (pv 1)) (pa_cons (pv 4) pa_nil))) (kgtup (K := K) (n := 2) rfl rfl (pgs_cons (kgtup (K := K) (n := 2) rfl rfl (pgs_cons (pg_name (i := 6) sc_simulated.nd rfl (.inl rfl)) (pgs_cons (pg_name (i := 7) sc_simulated.nd rfl (.inl rfl)) pgs_nil))) (pgs_cons (pg_name (i := 8) sc_simulated.nd rfl (.inl rfl)) pgs_nil)))
      (pss_one (ps_expr (pe_bm PySem.F.plainAttrs_list PySem.F.slot_list_append PySem.F.type_list_append mt_append (pv 5) (pa_cons (C8.pe_mt M_product hr (by omega) (pv 0) (pa_cons (pe_lst (pa_cons (pe_tupF (pa_cons (pv 8) (pa_cons pe_int pa_nil))) (pa_cons (pe_tupF (pa_cons (pv 6) (pa_cons (pe_un un_neg (pv 2)) pa_nil))) pa_nil))) pa_nil)) pa_nil)))))
      (pss_one (ps_ret (pe_callTy (ktupF (K := K) rfl) (by rfl) B.tuple bt_tuple (pa_cons (pv 5) pa_nil))))))),
    fn_run h (fun po => (s_seq (s_set fun _ => (a_call (a_cons a_var (a_cons a_var (a_cons a_var a_nil)))))
      (s_seq (s_setO fun _ => (a_lst a_nil))
      (s_seq (s_for (vs := [8, 6, 7]) (fun _ => (i_zip (a_cons (a_fld T1.cl T1.n_equations (c := 1) (i := 1) rfl a_var) (a_cons a_var a_nil)))) (fun _ => (g_tup (g_cons (g_tup (g_cons (g_name (by decide)) (g_cons (g_name (by decide)) g_nil tot_name) tot_name)) (g_cons (g_name (by decide)) g_nil tot_name) (tot_tup (tot_cons tot_name (tot_cons tot_name tot_nil))))))
      (s_app fun _ => (a_meth (by decide) a_var (a_cons (a_fz (a_lst (a_cons (a_tup (a_cons a_var (a_cons a_int a_nil))) (a_cons (a_tup (a_cons a_var (a_cons (a_neg a_var) a_nil))) a_nil)))) a_nil))))
      (s_ret fun _ => (a_b1 u_tupOf a_peek)))))) (fun ds P a => by obtain ⟨_, _, _, _, _, _, _, rfl, _⟩ := a; exact Nat.le_of_ble_eq_true rfl) ?_⟩
  rintro ds P ⟨p, q, bs, us, eqs, c, rs, rfl, q0, p0, p1, so, hl, hp⟩
  refine ⟨k, p, q, bs, us, eqs, rs, rfl, q0, p0, p1, so, hl, ?_⟩
  refine ⟨rfl, ?_⟩
  show forA _ _ _ (zipD (eqs.map eqD) ((sides p q us eqs rs).map Dat.int)) _
  rw [zipD_map, sides, zip_map_r, List.map_map]
  refine forA_map (fun i env => ∃ y6 y7 y8, env = [.d (grpD p q bs), .d (stO us eqs), .d (.int c), .d (sqD k (rs.map .int)), .d (.lst ((sides p q us eqs rs).map .int)), .o ((firsts p q us (eqs.take i) c rs).map .int), y6, y7, y8]) ⟨_, _, _, rfl⟩ ?_ ?_
  · rintro i e env hi ⟨y6, y7, y8, rfl⟩ N hN
    have lt := (List.getElem?_eq_some_iff.mp hi).1
    have le := so.le
    refine ⟨by rw [List.length_map, firsts, List.length_map, List.length_take]; omega, ⟨rfl, ?_⟩⟩
    refine ⟨p, q, bs, [(side p q us rs e, 1), (e.1, -c)], rfl, q0, p0, p1, hN _ ⟨.d (.int e.1), .d (.tup (e.2.map fcD)), .d (.int (side p q us rs e)), ?_⟩⟩
    rw [take_snoc hi, firsts_snoc, List.map_append]
    rfl
  · rintro env ⟨y6, y7, y8, rfl⟩
    show P (.tup ((firsts p q us (eqs.take eqs.length) c rs).map .int))
    rw [List.take_length]
    exact hp
end
section
variable {P : Dat → Prop} {p q : Prop}
theorem two_t : two true p q = p := rfl
theorem two_f : two false p q = q := rfl
theorem bQ_bl {b : Bool} {P : Bool → Prop} : bQ (.bl b) P = P b := rfl
theorem dQ_d {x : Dat} : dQ (.d x) P = P x := rfl
theorem dQ2_d {x : Dat} : dQ2 (.d x) P = P x := rfl
theorem dQ2_o {xs : List Dat} : dQ2 (.o xs) P = P (.lst xs) := rfl
theorem oQ_some {α : Type} {x : α} {P : α → Prop} : oQ (some x) P = P x := rfl
theorem oQ2_o {xs : List Dat} {P : List Dat → Prop} : oQ2 (.o xs) P = P xs := rfl
theorem lQ_lst {xs : List Dat} {P : List Dat → Prop} : lQ (.lst xs) P = P xs := rfl
theorem tQ_tup {xs : List Dat} {P : List Dat → Prop} : tQ (.tup xs) P = P xs := rfl
theorem sQ_lst {xs : List Dat} {P : List Dat → Prop} : sQ (.lst xs) P = P xs := rfl
theorem sQ_tup {xs : List Dat} {P : List Dat → Prop} : sQ (.tup xs) P = P xs := rfl
theorem kQ_t {xs : List Dat} {P : List Dat → Prop} : kQ true (.tup xs) P = P xs := rfl
theorem kQ_l {xs : List Dat} {P : List Dat → Prop} : kQ false (.lst xs) P = P xs := rfl
theorem kI_i {C : Int → Int → Prop} {g : Int → Int → Dat} {i j : Int} : kI C g (.int i) (.int j) P = (C i j ∧ P (g i j)) := rfl
theorem kI0_i {g : Int → Int → Dat} {i j : Int} : kI0 g (.int i) (.int j) P = P (g i j) := rfl
theorem kEq_i {n : Bool} {i j : Int} : kEq n (.int i) (.int j) P = P (.bl (if n then !decide (i = j) else decide (i = j))) := rfl
theorem kEq_s {n : Bool} {i j : Str} : kEq n (.str i) (.str j) P = P (.bl (if n then !decide (i = j) else decide (i = j))) := rfl
theorem kEq_b {n : Bool} {i j : Bool} : kEq n (.bl i) (.bl j) P = P (.bl (if n then !decide (i = j) else decide (i = j))) := rfl
theorem kFld_o {c i : Nat} {ds : List Dat} : kFld c i (.obj c ds) P = oQ ds[i]? P := propext ⟨fun h => h.2, fun h => ⟨rfl, h⟩⟩
theorem kIx_l {xs : List Dat} {i : Int} : kIx (.lst xs) (.int i) P = oQ (atI xs i) P := rfl
theorem kIx_t {xs : List Dat} {i : Int} : kIx (.tup xs) (.int i) P = oQ (atI xs i) P := rfl
theorem atD {α : Type} {xs : List α} {z : Int} {j : Nat} {v : α} (e : z = (j : Int)) (h : xs[j]? = some v) : atI xs z = some v := by
  have lt := (List.getElem?_eq_some_iff.mp h).1
  unfold atI ixN
  rw [if_pos (by omega), if_pos (by omega)]
  show xs[z.toNat]? = _
  rw [e, Int.toNat_natCast]
  exact h
theorem atI_0 {α : Type} {x : α} {xs : List α} : atI (x :: xs) 0 = some x := by
  show atI _ ((0 : Nat) : Int) = _
  exact atD rfl rfl
theorem atI_1 {α : Type} {x y : α} {xs : List α} : atI (x :: y :: xs) 1 = some y := by
  show atI _ ((1 : Nat) : Int) = _
  exact atD rfl rfl
theorem atI_2 {α : Type} {x y z : α} {xs : List α} : atI (x :: y :: z :: xs) 2 = some z := by
  show atI _ ((2 : Nat) : Int) = _
  exact atD rfl rfl
theorem atI_3 {α : Type} {x y z t : α} {xs : List α} : atI (x :: y :: z :: t :: xs) 3 = some t := by
  show atI _ ((3 : Nat) : Int) = _
  exact atD rfl rfl
theorem kMax2_i {i j : Int} : kMax2 (.int i) (.int j) P = P (.int (if j > i then j else i)) := rfl
theorem kCatT_t {xs ys : List Dat} : kCatT (.tup xs) (.tup ys) P = (xs.length + ys.length ≤ 100000 ∧ P (.tup (xs ++ ys))) := rfl
theorem kCatL_l {xs ys : List Dat} {P : List Dat → Prop} : kCatL (.lst xs) (.lst ys) P = (xs.length + ys.length ≤ 100000 ∧ P (xs ++ ys)) := rfl
theorem kCatS_s {x y : Str} : kCatS (.str x) (.str y) P = (x.length + y.length ≤ 100000 ∧ P (.str (x ++ y))) := rfl
theorem kInt_i {i : Int} : kInt (.int i) P = P (.int i) := rfl
theorem kNeg_i {i : Int} : kNeg (.int i) P = P (.int (-i)) := rfl
theorem kStr_i {i : Int} : kStr (.int i) P = (i.natAbs < 1000000 ∧ P (.str (toString i))) := rfl
theorem kIsO_o {c : Nat} {ds : List Dat} : kIsO c (.obj c ds) P = P (.bl true) := propext ⟨fun h => h.2, fun h => ⟨rfl, h⟩⟩
theorem aTest_eq {ea : AEx} {env : List Sl} {P : Bool → Prop} : aTest ea env P = ea env fun x => bQ x P := by
  unfold aTest
  congr
  funext x
  cases x <;> rfl
theorem gCons_c {g : ATg} {ag : List Dat → List Sl → (List Sl → Prop) → Prop} {d : Dat} {ds : List Dat} {env : List Sl} {P : List Sl → Prop} : gConsA g ag (d :: ds) env P = g d env fun env2 => ag ds env2 P := rfl
theorem gNil_n {env : List Sl} {P : List Sl → Prop} : gNilA [] env P = P env := rfl
theorem dAt_0 {s : Sl} {r : List Sl} : dAt (s :: r) 0 = s := rfl
theorem dAt_s {s : Sl} {r : List Sl} {i : Nat} : dAt (s :: r) (i + 1) = dAt r i := rfl
end
section
variable {T : String} {P : Dat → Prop}
theorem kIsT_non : kIsT T .non P = P (.bl (decide ("NoneType" = T) || (decide ("NoneType" = "bool") && decide (T = "int")))) := rfl
theorem kIsT_bl {b : Bool} : kIsT T (.bl b) P = P (.bl (decide ("bool" = T) || (decide ("bool" = "bool") && decide (T = "int")))) := rfl
theorem kIsT_int {b : Int} : kIsT T (.int b) P = P (.bl (decide ("int" = T) || (decide ("int" = "bool") && decide (T = "int")))) := rfl
theorem kIsT_str {b : Str} : kIsT T (.str b) P = P (.bl (decide ("str" = T) || (decide ("str" = "bool") && decide (T = "int")))) := rfl
theorem kIsT_lst {b : List Dat} : kIsT T (.lst b) P = P (.bl (decide ("list" = T) || (decide ("list" = "bool") && decide (T = "int")))) := rfl
theorem kIsT_tup {b : List Dat} : kIsT T (.tup b) P = P (.bl (decide ("tuple" = T) || (decide ("tuple" = "bool") && decide (T = "int")))) := rfl
theorem kIsN_non {n : Bool} : kIsN n .non .non P = P (.bl (!n)) := rfl
theorem kIsN_bl {n b : Bool} : kIsN n (.bl b) .non P = P (.bl n) := rfl
theorem kIsN_int {n : Bool} {b : Int} : kIsN n (.int b) .non P = P (.bl n) := rfl
theorem kIsN_str {n : Bool} {b : Str} : kIsN n (.str b) .non P = P (.bl n) := rfl
theorem kIsN_lst {n : Bool} {b : List Dat} : kIsN n (.lst b) .non P = P (.bl n) := rfl
theorem kIsN_tup {n : Bool} {b : List Dat} : kIsN n (.tup b) .non P = P (.bl n) := rfl
theorem kIsN_obj {n : Bool} {c : Nat} {b : List Dat} : kIsN n (.obj c b) .non P = P (.bl n) := rfl
theorem kEq_nn {n : Bool} : kEq n .non .non P = P (.bl (!n)) := rfl
end
theorem lcA_filL {α : Type} {f : α → Dat} {xs : List α} {el : Dat → (Option Dat → Prop) → Prop} {P : List Dat → Prop} (g : α → Dat) (c : α → Bool) (h : ∀ x ∈ xs, ∀ Q : Option Dat → Prop, (c x = true → Q (some (g x))) → (c x = false → Q none) → el (f x) Q) (k : P ((xs.filter c).map g)) : lcA el P (xs.map f) [] := by
  have gen : ∀ (ys : List α) (acc : List Dat), (∀ x ∈ ys, ∀ Q : Option Dat → Prop, (c x = true → Q (some (g x))) → (c x = false → Q none) → el (f x) Q) → P (acc ++ (ys.filter c).map g) → lcA el P (ys.map f) acc := by
    intro ys
    induction ys with
    | nil =>
      intro acc _ k
      rw [List.filter_nil, List.map_nil, List.append_nil] at k
      exact k
    | cons y ys ih =>
      intro acc h k
      refine h y List.mem_cons_self _ (fun e => ?_) (fun e => ?_)
      · show lcA el P (ys.map f) (acc ++ [g y])
        refine ih _ (fun x hx => h x (List.mem_cons_of_mem _ hx)) ?_
        rw [List.filter_cons, e, if_pos rfl, List.map_cons] at k
        rw [List.append_assoc]
        exact k
      · show lcA el P (ys.map f) acc
        refine ih _ (fun x hx => h x (List.mem_cons_of_mem _ hx)) ?_
        rw [List.filter_cons, e, if_neg Bool.false_ne_true] at k
        exact k
  exact gen xs [] h k
theorem mem_ints {x : Int} {xs : List Int} : Dat.int x ∈ xs.map Dat.int ↔ x ∈ xs := ⟨fun h => by
  obtain ⟨y, hy, e⟩ := List.mem_map.mp h
  cases e
  exact hy, fun h => List.mem_map.mpr ⟨x, h, rfl⟩⟩
theorem flat_all (xs : List Int) : (xs.map Dat.int).all flatD = true := List.all_eq_true.mpr fun d hd => by
  obtain ⟨y, hy, e⟩ := List.mem_map.mp hd
  subst e
  rfl
theorem kIn_i {n : Bool} {x : Int} {xs : List Int} {P : Dat → Prop} (h : P (.bl (if n then !decide (x ∈ xs) else decide (x ∈ xs)))) : kIn n (.int x) (.lst (xs.map .int)) P := ⟨rfl, flat_all xs, fun b hb => by
  have e : b = decide (x ∈ xs) := by
    rw [mem_ints] at hb
    by_cases hx : x ∈ xs
    · rw [decide_eq_true hx]
      exact hb.mpr hx
    · rw [decide_eq_false hx]
      exact Bool.eq_false_iff.mpr fun z => hx (hb.mp z)
  subst e
  exact h⟩
theorem ix_any {α : Type} {f : α → Dat} {xs : List α} {v : Int} {P : Dat → Prop} (h0 : 0 ≤ v) (h1 : v < xs.length) (h : ∀ x ∈ xs, P (f x)) : kIx (.lst (xs.map f)) (.int v) P := by
  have lt : v.toNat < xs.length := by omega
  rw [kIx_l, atD (j := v.toNat) (v := f xs[v.toNat]) (by omega) (by rw [List.getElem?_map, List.getElem?_eq_getElem lt]; rfl)]
  exact h _ (List.getElem_mem lt)
theorem ix_at {α : Type} {f : α → Dat} {xs : List α} {v : Int} {j : Nat} {x : α} {P : Dat → Prop} (e : v = (j : Int)) (h1 : xs[j]? = some x) (h : P (f x)) : kIx (.lst (xs.map f)) (.int v) P := by
  rw [kIx_l, atD (j := j) (v := f x) e (by rw [List.getElem?_map, h1]; rfl)]
  exact h
theorem ix_atT {α : Type} {f : α → Dat} {xs : List α} {v : Int} {j : Nat} {x : α} {P : Dat → Prop} (e : v = (j : Int)) (h1 : xs[j]? = some x) (h : P (f x)) : kIx (.tup (xs.map f)) (.int v) P := ix_at (f := f) e h1 h
theorem oa_at {α : Type} {f : α → Dat} {xs : List α} {v : Int} {j : Nat} {x : α} {P : Dat → Prop} (e : v = (j : Int)) (h1 : xs[j]? = some x) (h : P (f x)) : oQ (atI (xs.map f) v) P := ix_at (f := f) e h1 h
theorem oa_any {α : Type} {f : α → Dat} {xs : List α} {v : Int} {P : Dat → Prop} (h0 : 0 ≤ v) (h1 : v < xs.length) (h : ∀ x ∈ xs, P (f x)) : oQ (atI (xs.map f) v) P := ix_any (f := f) h0 h1 h
theorem cut_nat {xs : List Dat} {a b : Nat} (h : a ≤ b) : cutD xs (some (a : Int)) (some (b : Int)) = (xs.drop a).take (b - a) := by
  unfold cutD
  rw [show HT.sIx xs.length 0 (some (a : Int)) = min a xs.length from HT.sIx_nat _ _ _, show HT.sIx xs.length xs.length (some (b : Int)) = min b xs.length from HT.sIx_nat _ _ _]
  by_cases ha : a ≤ xs.length
  · rw [Nat.min_eq_left ha]
    by_cases hb : b ≤ xs.length
    · rw [Nat.min_eq_left hb]
    · rw [Nat.min_eq_right (by omega), List.take_of_length_le (by rw [List.length_drop]; omega), List.take_of_length_le (by rw [List.length_drop]; omega)]
  · rw [Nat.min_eq_right (by omega), Nat.min_eq_right (by omega), List.drop_eq_nil_of_le (by omega), List.drop_eq_nil_of_le (by omega)]
    simp
theorem cut_to {xs : List Dat} {b : Nat} : cutD xs none (some (b : Int)) = xs.take b := by
  have h := cut_nat (xs := xs) (a := 0) (b := b) (Nat.zero_le b)
  rw [List.drop_zero, Nat.sub_zero] at h
  rw [← h]
  unfold cutD
  rw [show HT.sIx xs.length 0 (some ((0 : Nat) : Int)) = 0 by rw [show HT.sIx xs.length 0 (some ((0 : Nat) : Int)) = min 0 xs.length from HT.sIx_nat _ _ _]; exact Nat.zero_min _]
  rfl
theorem cut_from {xs : List Dat} {a : Nat} : cutD xs (some (a : Int)) none = xs.drop a := by
  unfold cutD
  rw [show HT.sIx xs.length 0 (some (a : Int)) = min a xs.length from HT.sIx_nat _ _ _, show HT.sIx xs.length xs.length none = xs.length from rfl]
  by_cases ha : a ≤ xs.length
  · rw [Nat.min_eq_left ha, List.take_of_length_le (by rw [List.length_drop]; omega)]
  · rw [Nat.min_eq_right (by omega), List.drop_eq_nil_of_le (by omega), List.drop_eq_nil_of_le (by omega)]
    simp
/-- what comes after a statement, by a name: nothing looks into it -/
theorem seqG {a b : ASt} {D : AEnds} {env : List Sl} (h : ∀ N : List Sl → Prop, N = b D → a { D with nx := N } env) : sSeq a b D env := h _ rfl
local macro_rules | `(tactic| walk_at "dd") => `(tactic| simp only [elA, sSeq, sNext, sIf, sAsg, sSetO, sRet, sRetN, sDrop, sPar, sFz, sApp, sAug, sFor, oQ2_o, dQ_d, dQ2_d, dQ2_o, dAt_0, dAt_s, aVar, aPeek, aC, aFz, a2, a2F, a1, a1F, aCons, aNil, aTup, aTest_eq, aNot, aAnd, aOr, bQ_bl, aAndV, aOrV, aNotV, aIf, aChain, kI_i, kI0_i, kEq_i, kEq_s, kEq_b, kFld_o, oQ_some, aCall, aMeth, aMake, iSeq, lQ_lst, tQ_tup, sQ_lst, sQ_tup, iRan, gA, gTu, gNil_n, gCons_c, aLc, wipeA, kLen, kTupOf, kQ_t, kQ_l, iZipA, iEnA, aSlF, aSlT, aoN, aoS, aRevT, aRevL, kMax2_i, kCatS_s, kCatT_t, kCatL_l, kInt_i, kNeg_i, true_and, aYes, iCons, iNil, iDrop, kIsO_o, two_t, two_f, kIx_l, kIx_t, atI_0, atI_1, atI_2, atI_3, Bool.false_eq_true, if_false, if_true, kStr_i, kIsT_non, kIsT_bl, kIsT_int, kIsT_str, kIsT_lst, kIsT_tup, kIsN_non, kIsN_bl, kIsN_int, kIsN_str, kIsN_lst, kIsN_tup, kIsN_obj, kEq_nn, String.reduceEq, decide_true, decide_false, Bool.or_false, Bool.false_or, Bool.true_or, Bool.or_true, Bool.and_true, Bool.true_and, Bool.and_false, Bool.false_and, Bool.not_true, Bool.not_false, reduceCtorEq,
  List.map_cons, List.map_nil, List.cons_append, List.nil_append, List.length_cons, List.length_nil, Nat.reduceAdd, Nat.reduceSub, List.replicate_succ, List.replicate_zero, List.set_cons_zero, List.set_cons_succ, List.getElem?_cons_zero, List.getElem?_cons_succ])
local macro_rules | `(tactic| walk_at "dx") => `(tactic| simp only [elA, sNext, sAsg, sSetO, sRet, sRetN, sDrop, sPar, sFz, sApp, sAug, sFor, oQ2_o, dQ_d, dQ2_d, dQ2_o, dAt_0, dAt_s, aVar, aPeek, aC, aFz, a2, a2F, a1, a1F, aCons, aNil, aTup, aTest_eq, aNot, aAnd, aOr, bQ_bl, aAndV, aOrV, aNotV, aIf, aChain, kI_i, kI0_i, kEq_i, kEq_s, kEq_b, kFld_o, oQ_some, aCall, aMeth, aMake, iSeq, lQ_lst, tQ_tup, sQ_lst, sQ_tup, iRan, gA, gTu, gNil_n, gCons_c, aLc, wipeA, kLen, kTupOf, kQ_t, kQ_l, iZipA, iEnA, aSlF, aSlT, aoN, aoS, aRevT, aRevL, kMax2_i, kCatS_s, kCatT_t, kCatL_l, kInt_i, kNeg_i, true_and, aYes, iCons, iNil, iDrop, kIsO_o, two_t, two_f, kIx_l, kIx_t, atI_0, atI_1, atI_2, atI_3, Bool.false_eq_true, if_false, if_true, kStr_i, kIsT_non, kIsT_bl, kIsT_int, kIsT_str, kIsT_lst, kIsT_tup, kIsN_non, kIsN_bl, kIsN_int, kIsN_str, kIsN_lst, kIsN_tup, kIsN_obj, kEq_nn, String.reduceEq, decide_true, decide_false, Bool.or_false, Bool.false_or, Bool.true_or, Bool.or_true, Bool.and_true, Bool.true_and, Bool.and_false, Bool.false_and, Bool.not_true, Bool.not_false, reduceCtorEq,
  List.map_cons, List.map_nil, List.cons_append, List.nil_append, List.length_cons, List.length_nil, Nat.reduceAdd, Nat.reduceSub, List.replicate_succ, List.replicate_zero, List.set_cons_zero, List.set_cons_succ, List.getElem?_cons_zero, List.getElem?_cons_succ])
local macro_rules | `(tactic| walk_at "dk") => `(tactic| simp -implicitDefEqProofs only [elA, sSeq, sNext, sIf, sAsg, sSetO, sRet, sRetN, sDrop, sPar, sFz, sApp, sAug, sFor, oQ2_o, dQ_d, dQ2_d, dQ2_o, dAt_0, dAt_s, aVar, aPeek, aC, aFz, a2, a2F, a1, a1F, aCons, aNil, aTup, aTest_eq, aNot, aAnd, aOr, bQ_bl, aAndV, aOrV, aNotV, aIf, aChain, kI_i, kI0_i, kEq_i, kEq_s, kEq_b, kFld_o, oQ_some, aCall, aMeth, aMake, iSeq, lQ_lst, tQ_tup, sQ_lst, sQ_tup, iRan, gA, gTu, gNil_n, gCons_c, aLc, wipeA, kLen, kTupOf, kQ_t, kQ_l, iZipA, iEnA, aSlF, aSlT, aoN, aoS, aRevT, aRevL, kMax2_i, kCatS_s, kCatT_t, kCatL_l, kInt_i, kNeg_i, true_and, aYes, iCons, iNil, iDrop, kIsO_o, two_t, two_f, kIx_l, kIx_t, atI_0, atI_1, atI_2, atI_3, Bool.false_eq_true, if_false, if_true, kStr_i, kIsT_non, kIsT_bl, kIsT_int, kIsT_str, kIsT_lst, kIsT_tup, kIsN_non, kIsN_bl, kIsN_int, kIsN_str, kIsN_lst, kIsN_tup, kIsN_obj, kEq_nn, String.reduceEq, decide_true, decide_false, Bool.or_false, Bool.false_or, Bool.true_or, Bool.or_true, Bool.and_true, Bool.true_and, Bool.and_false, Bool.false_and, Bool.not_true, Bool.not_false, reduceCtorEq,
  List.map_cons, List.map_nil, List.cons_append, List.nil_append, List.length_cons, List.length_nil, Nat.reduceAdd, Nat.reduceSub, List.replicate_succ, List.replicate_zero, List.set_cons_zero, List.set_cons_succ, List.getElem?_cons_zero, List.getElem?_cons_succ])
local macro_rules | `(tactic| walk_at "dy") => `(tactic| simp -implicitDefEqProofs only [elA, sNext, sAsg, sSetO, sRet, sRetN, sDrop, sPar, sFz, sApp, sAug, sFor, oQ2_o, dQ_d, dQ2_d, dQ2_o, dAt_0, dAt_s, aVar, aPeek, aC, aFz, a2, a2F, a1, a1F, aCons, aNil, aTup, aTest_eq, aNot, aAnd, aOr, bQ_bl, aAndV, aOrV, aNotV, aIf, aChain, kI_i, kI0_i, kEq_i, kEq_s, kEq_b, kFld_o, oQ_some, aCall, aMeth, aMake, iSeq, lQ_lst, tQ_tup, sQ_lst, sQ_tup, iRan, gA, gTu, gNil_n, gCons_c, aLc, wipeA, kLen, kTupOf, kQ_t, kQ_l, iZipA, iEnA, aSlF, aSlT, aoN, aoS, aRevT, aRevL, kMax2_i, kCatS_s, kCatT_t, kCatL_l, kInt_i, kNeg_i, true_and, aYes, iCons, iNil, iDrop, kIsO_o, two_t, two_f, kIx_l, kIx_t, atI_0, atI_1, atI_2, atI_3, Bool.false_eq_true, if_false, if_true, kStr_i, kIsT_non, kIsT_bl, kIsT_int, kIsT_str, kIsT_lst, kIsT_tup, kIsN_non, kIsN_bl, kIsN_int, kIsN_str, kIsN_lst, kIsN_tup, kIsN_obj, kEq_nn, String.reduceEq, decide_true, decide_false, Bool.or_false, Bool.false_or, Bool.true_or, Bool.or_true, Bool.and_true, Bool.true_and, Bool.and_false, Bool.false_and, Bool.not_true, Bool.not_false, reduceCtorEq,
  List.map_cons, List.map_nil, List.cons_append, List.nil_append, List.length_cons, List.length_nil, Nat.reduceAdd, Nat.reduceSub, List.replicate_succ, List.replicate_zero, List.set_cons_zero, List.set_cons_succ, List.getElem?_cons_zero, List.getElem?_cons_succ])
theorem okE_str {x : Str} (h : PyData.strOk x = true) (n : Nat) : okE n (.str x) := ⟨h, Nat.zero_le n⟩
theorem okE_maps {α : Type} {f : α → Dat} {n : Nat} {xs : List α} (h : ∀ x ∈ xs, okE n (f x)) : ∀ d ∈ xs.map f, okE n d := fun d hd => by
  obtain ⟨x, hx, rfl⟩ := List.mem_map.mp hd
  exact h x hx
theorem okE_two {a b : Dat} {n : Nat} (h1 : okE n a) (h2 : okE n b) : ∀ d ∈ [a, b], okE n d := fun d hd => by
  rcases List.mem_cons.mp hd with rfl | hd
  · exact h1
  · rw [List.mem_singleton.mp hd]
    exact h2
theorem map_inj {α : Type} {f : α → Dat} (h : ∀ x y, f x = f y → x = y) : ∀ {xs ys : List α}, xs.map f = ys.map f → xs = ys
  | [], [], _ => rfl
  | [], _ :: _, e => by cases e
  | _ :: _, [], e => by cases e
  | x :: xs, y :: ys, e => by
    rw [List.map_cons, List.map_cons, List.cons.injEq] at e
    rw [h _ _ e.1, map_inj h e.2]
theorem ints_inj {xs ys : List Int} (h : xs.map Dat.int = ys.map Dat.int) : xs = ys := map_inj (fun _ _ => Dat.int.inj) h
mutual
/-- data without objects, dicts, the pool -/
def plD : Dat → Bool
  | .non => true
  | .bl _ => true
  | .int _ => true
  | .str _ => true
  | .lst xs => plAll xs
  | .tup xs => plAll xs
  | _ => false
def plAll : List Dat → Bool
  | [] => true
  | x :: xs => plD x && plAll xs
end
theorem plAll_get : ∀ {xs : List Dat} {i : Nat} {x : Dat}, plAll xs = true → xs[i]? = some x → plD x = true
  | [], _, _, _, e => by cases e
  | y :: ys, 0, x, h, e => by
    have h : (plD y && plAll ys) = true := h
    rw [Bool.and_eq_true] at h
    cases e
    exact h.1
  | y :: ys, i + 1, x, h, e => by
    have h : (plD y && plAll ys) = true := h
    rw [Bool.and_eq_true] at h
    exact plAll_get h.2 (i := i) (by simpa using e)
theorem plAll_of : ∀ {xs : List Dat}, (∀ x ∈ xs, plD x = true) → plAll xs = true
  | [], _ => rfl
  | x :: xs, h => by
    show (plD x && plAll xs) = true
    rw [h x List.mem_cons_self, plAll_of fun y hy => h y (List.mem_cons_of_mem _ hy)]
    rfl
/-- what _law_same compares with, of so many levels -/
def okS : Nat → Dat → Prop
  | _, .non => True
  | _, .bl _ => True
  | _, .int _ => True
  | _, .str _ => True
  | n + 1, .lst ds => ds.length ≤ 1000000 ∧ ∀ d ∈ ds, okS n d
  | n + 1, .tup ds => ds.length ≤ 1000000 ∧ ∀ d ∈ ds, okS n d
  | _, _ => False
abbrev s__law_same : Stmt := top 58
theorem sc__law_same : FnScope ["actual", "due", "k"] ["actual", "due"] (defScope s__law_same) := ⟨rfl, rfl, rfl, by decide +kernel, rfl, by decide +kernel, by decide +kernel⟩
section
variable {P : Program} {w : World} {K : PySem.W.Frag} {mg : Str → Option Value} {base : Heap} {ca : Nat → Addr}
def aspSame : Nat → ASp
  | 0 => fun _ _ => False
  | n + 1 => fun ds P => ∃ a d : Dat, ds = [a, d] ∧ plD a = true ∧ okS n d ∧ ∀ b : Bool, (b = true ↔ a = d) → P (.bl b)
theorem same_step {n : Nat} {f : Addr} {fd : FuncData} (F : Fun K "_law_same" "_law_same" s__law_same f fd) (B : Blt mg) (C__law_same : C8.Cal P w K mg base n "_law_same" (toSp K ca (aspSame n)) []) : FnOk P w K mg base CX0 (n + 1) f fd ["actual", "due"] (toSp K ca (aspSame (n + 1))) := by
  refine F.ok sc__law_same (fun vs H Q E h => sp_len (n := 2) (fun ds P a => by obtain ⟨_, _, rfl, _⟩ := a; rfl) h) (fun cdv A outer s H vs Q E hr h => ⟨_, (pss_cons (ps_if (PW.pt (pw_or (pt_val (pe_callB (kisi (K := K) rfl) (by rfl) B.isinstance bt_isinstance (pa_cons (pv 1) (pa_cons (pe_bltn (v := .ty "tuple") (u := .type "tuple") (by rfl) B.tuple bt_tuple rfl) pa_nil)))) (pw_or1 (pt_val (pe_callB (kisi (K := K) rfl) (by rfl) B.isinstance bt_isinstance (pa_cons (pv 1) (pa_cons (pe_bltn (v := .ty "list") (u := .type "list") (by rfl) B.list bt_list rfl) pa_nil))))))) (pss_cons (ps_if (PW.pt (pw_or (pt_cmpR op_ne (pe_callB (kisi (K := K) rfl) (by rfl) B.isinstance bt_isinstance (pa_cons (pv 1) (pa_cons (pe_bltn (v := .ty "tuple") (u := .type "tuple") (by rfl) B.tuple bt_tuple rfl) pa_nil))) (pe_callB (kisi (K := K) rfl) (by rfl) B.isinstance bt_isinstance (pa_cons (pv 0) (pa_cons (pe_bltn (v := .ty "tuple") (u := .type "tuple") (by rfl) B.tuple bt_tuple rfl) pa_nil))) (nomark _)) (pw_or1 (pt_cmpR op_ne (pe_callB (kisi (K := K) rfl) (by rfl) B.isinstance bt_isinstance (pa_cons (pv 1) (pa_cons (pe_bltn (v := .ty "list") (u := .type "list") (by rfl) B.list bt_list rfl) pa_nil))) (pe_callB (kisi (K := K) rfl) (by rfl) B.isinstance bt_isinstance (pa_cons (pv 0) (pa_cons (pe_bltn (v := .ty "list") (u := .type "list") (by rfl) B.list bt_list rfl) pa_nil))) (nomark _))))) (pss_one (ps_ret pe_bl)) pss_nil)
      (pss_cons (ps_if (pt_cmpR op_ne (pe_callB (klen (K := K) rfl) (by rfl) B.len bt_len (pa_cons (pv 0) pa_nil)) (pe_callB (klen (K := K) rfl) (by rfl) B.len bt_len (pa_cons (pv 1) pa_nil)) (nomark _)) (pss_one (ps_ret pe_bl)) pss_nil)
      (pss_cons (ps_for PassesOwn.never rfl (pi_range1 rfl B.range (pa_cons (pe_callB (klen (K := K) rfl) (by rfl) B.len bt_len (pa_cons (pv 1) pa_nil)) pa_nil)) (pg_name (i := 2) sc__law_same.nd rfl (.inl rfl))
      (pss_one (ps_if (pt_not (pt_val (C8.pe_c C__law_same hr (by omega) rfl (pa_cons (pe_ix (kixs (K := K) rfl) (pv 0) (pv 2) (fun _ _ => rfl)) (pa_cons (pe_ix (kixs (K := K) rfl) (pv 1) (pv 2) (fun _ _ => rfl)) pa_nil))))) (pss_one (ps_ret pe_bl)) pss_nil)))
      (pss_one (ps_ret pe_bl))))) pss_nil)
      (pss_cons (ps_if (PW.pt (pw_or (pt_cmpR op_isN (pv 1) pe_non (nomark _)) (pw_or1 (pt_val (pe_callB (kisi (K := K) rfl) (by rfl) B.isinstance bt_isinstance (pa_cons (pv 1) (pa_cons (pe_bltn (v := .ty "bool") (u := .type "bool") (by rfl) B.bool bt_bool rfl) pa_nil))))))) (pss_one (ps_ret (pe_and (pe_cmpR op_eq (pe_cmpR op_isN (pv 0) pe_non (nomark _)) (pe_cmpR op_isN (pv 1) pe_non (nomark _)) (nomark _)) (pe_and (pe_or (pe_cmpR op_isN (pv 1) pe_non (nomark _)) (pe_one (pe_callB (kisi (K := K) rfl) (by rfl) B.isinstance bt_isinstance (pa_cons (pv 0) (pa_cons (pe_bltn (v := .ty "bool") (u := .type "bool") (by rfl) B.bool bt_bool rfl) pa_nil))))) (pe_one (pe_cmpR op_eq (pv 0) (pv 1) (nomark _))))))) pss_nil)
      (pss_cons (ps_if (pt_val (pe_callB (kisi (K := K) rfl) (by rfl) B.isinstance bt_isinstance (pa_cons (pv 1) (pa_cons (pe_bltn (v := .ty "int") (u := .type "int") (by rfl) B.int bt_int rfl) pa_nil)))) (pss_one (ps_ret (pe_and (pe_callB (kisi (K := K) rfl) (by rfl) B.isinstance bt_isinstance (pa_cons (pv 0) (pa_cons (pe_bltn (v := .ty "int") (u := .type "int") (by rfl) B.int bt_int rfl) pa_nil))) (pe_and (pe_not (pe_callB (kisi (K := K) rfl) (by rfl) B.isinstance bt_isinstance (pa_cons (pv 0) (pa_cons (pe_bltn (v := .ty "bool") (u := .type "bool") (by rfl) B.bool bt_bool rfl) pa_nil)))) (pe_one (pe_cmpR op_eq (pv 0) (pv 1) (nomark _))))))) pss_nil)
      (pss_one (ps_ret (pe_and (pe_callB (kisi (K := K) rfl) (by rfl) B.isinstance bt_isinstance (pa_cons (pv 0) (pa_cons (pe_bltn (v := .ty "str") (u := .type "str") (by rfl) B.str bt_str rfl) pa_nil))) (pe_one (pe_cmpR op_eq (pv 0) (pv 1) (nomark _))))))))),
    fn_run h (fun po => (s_seq (s_if (fun _ => (a_or (a_tb (a_isT (by decide) a_var)) (a_tb (a_isT (by decide) a_var)))) (s_seq (s_if (fun _ => (a_or (a_test (a_op pst_rv rok_ne (a_isT (by decide) a_var) (a_isT (by decide) a_var))) (a_test (a_op pst_rv rok_ne (a_isT (by decide) a_var) (a_isT (by decide) a_var))))) (s_ret fun _ => a_bl) s_next)
      (s_seq (s_if (fun _ => (a_test (a_op pst_rv rok_ne (a_b1 u_len (a_pk a_var)) (a_b1 u_len (a_pk a_var))))) (s_ret fun _ => a_bl) s_next)
      (s_seq (s_for (vs := [2]) (fun _ => (i_ran1 (a_cons (a_b1 u_len (a_pk a_var)) a_nil))) (fun _ => (g_name (by decide)))
      (s_if (fun _ => (a_not (a_tb (a_call (a_cons (a_op pst_pk rok_ix (a_pk a_var) a_var) (a_cons (a_op pst_pk rok_ix (a_pk a_var) a_var) a_nil)))))) (s_ret fun _ => a_bl) s_next))
      (s_ret fun _ => a_bl)))) s_next)
      (s_seq (s_if (fun _ => (a_or (a_test (a_op pst_rv rok_isN a_var a_non)) (a_tb (a_isT (by decide) a_var)))) (s_ret fun _ => (a_andV (a_op pst_rv rok_eq (a_op pst_rv rok_isN a_var a_non) (a_op pst_rv rok_isN a_var a_non)) (a_andV (a_orV (a_op pst_rv rok_isN a_var a_non) (a_isT (by decide) a_var)) (a_op pst_rv rok_eq a_var a_var)))) s_next)
      (s_seq (s_if (fun _ => (a_tb (a_isT (by decide) a_var))) (s_ret fun _ => (a_andV (a_isT (by decide) a_var) (a_andV (a_notV (a_isT (by decide) a_var)) (a_op pst_rv rok_eq a_var a_var)))) s_next)
      (s_ret fun _ => (a_andV (a_isT (by decide) a_var) (a_op pst_rv rok_eq a_var a_var))))))) (fun ds P a => by obtain ⟨_, _, rfl, _⟩ := a; exact Nat.le_of_ble_eq_true rfl) ?_⟩)
  rintro ds P ⟨a, d, rfl, ha, hd, hp⟩
  have no : ∀ {x : Bool}, x = false → ¬ a = d → P (.bl x) := fun {x} e h => hp x ⟨fun z => (by rw [e] at z; cases z), fun z => absurd z h⟩
  refine seqG fun N0 hN0 => ?_
  cases d with
  | non => cases a <;> first | (cases ha; done) | (walk_at "dd"; subst hN0; walk_at "dd"; exact hp _ (by simp))
  | bl b => cases a <;> first | (cases ha; done) | (walk_at "dd"; subst hN0; walk_at "dd"; exact hp _ (by simp))
  | int b => cases a <;> first | (cases ha; done) | (walk_at "dd"; subst hN0; walk_at "dd"; exact hp _ (by simp))
  | str b => cases a <;> first | (cases ha; done) | (walk_at "dd"; subst hN0; walk_at "dd"; exact hp _ (by simp))
  | lst ys =>
    obtain ⟨n, rfl⟩ : ∃ m, n = m + 1 := by
      cases n with
      | zero => exact hd.elim
      | succ n => exact ⟨n, rfl⟩
    obtain ⟨hl, hd⟩ := hd
    cases a with
    | lst xs =>
      walk_at "dd"
      refine twoN (fun e => ?_) (fun e => ?_)
      · refine no rfl fun z => e ?_
        rw [Dat.lst.injEq] at z
        rw [z]
      · have el : xs.length = ys.length := by omega
        refine ⟨by omega, by omega, ?_⟩
        refine forA_ran (fun i env => ∃ y, env = [.d (.lst xs), .d (.lst ys), y] ∧ ∀ j < i, xs[j]? = ys[j]?) ⟨_, rfl, fun j hj => absurd hj (Nat.not_lt_zero _)⟩ ?_ ?_
        · rintro i env hi ⟨y, rfl, hj⟩ N hN
          have hie : i < ys.length := by omega
          have hid : i < xs.length := by omega
          walk_at "dd"
          rw [atD (Int.zero_add _) (List.getElem?_eq_getElem hid), atD (Int.zero_add _) (List.getElem?_eq_getElem hie)]
          refine ⟨_, _, rfl, plAll_get (show plAll xs = true from ha) (List.getElem?_eq_getElem hid), hd _ (List.getElem_mem hie), fun b hb => ?_⟩
          walk_at "dd"
          cases b with
          | true =>
            refine hN _ ⟨_, rfl, fun j h => ?_⟩
            by_cases hji : j < i
            · exact hj j hji
            · have : j = i := by omega
              subst this
              rw [List.getElem?_eq_getElem hid, List.getElem?_eq_getElem hie, hb.mp rfl]
          | false =>
            refine no rfl fun z => ?_
            rw [Dat.lst.injEq] at z
            subst z
            exact absurd (hb.mpr rfl) (by decide)
        · rintro env ⟨y, rfl, hj⟩
          walk_at "dd"
          refine hp _ ⟨fun _ => ?_, fun _ => rfl⟩
          congr 1
          refine List.ext_getElem? fun j => ?_
          by_cases h : j < ys.length
          · exact hj j h
          · rw [List.getElem?_eq_none (by omega), List.getElem?_eq_none (by omega)]
    | non => walk_at "dd"; exact no rfl (by simp)
    | bl b => walk_at "dd"; exact no rfl (by simp)
    | int b => walk_at "dd"; exact no rfl (by simp)
    | str b => walk_at "dd"; exact no rfl (by simp)
    | tup b => walk_at "dd"; exact no rfl (by simp)
    | _ => cases ha
  | tup ys =>
    obtain ⟨n, rfl⟩ : ∃ m, n = m + 1 := by
      cases n with
      | zero => exact hd.elim
      | succ n => exact ⟨n, rfl⟩
    obtain ⟨hl, hd⟩ := hd
    cases a with
    | tup xs =>
      walk_at "dd"
      refine twoN (fun e => ?_) (fun e => ?_)
      · refine no rfl fun z => e ?_
        rw [Dat.tup.injEq] at z
        rw [z]
      · have el : xs.length = ys.length := by omega
        refine ⟨by omega, by omega, ?_⟩
        refine forA_ran (fun i env => ∃ y, env = [.d (.tup xs), .d (.tup ys), y] ∧ ∀ j < i, xs[j]? = ys[j]?) ⟨_, rfl, fun j hj => absurd hj (Nat.not_lt_zero _)⟩ ?_ ?_
        · rintro i env hi ⟨y, rfl, hj⟩ N hN
          have hie : i < ys.length := by omega
          have hid : i < xs.length := by omega
          walk_at "dd"
          rw [atD (Int.zero_add _) (List.getElem?_eq_getElem hid), atD (Int.zero_add _) (List.getElem?_eq_getElem hie)]
          refine ⟨_, _, rfl, plAll_get (show plAll xs = true from ha) (List.getElem?_eq_getElem hid), hd _ (List.getElem_mem hie), fun b hb => ?_⟩
          walk_at "dd"
          cases b with
          | true =>
            refine hN _ ⟨_, rfl, fun j h => ?_⟩
            by_cases hji : j < i
            · exact hj j hji
            · have : j = i := by omega
              subst this
              rw [List.getElem?_eq_getElem hid, List.getElem?_eq_getElem hie, hb.mp rfl]
          | false =>
            refine no rfl fun z => ?_
            rw [Dat.tup.injEq] at z
            subst z
            exact absurd (hb.mpr rfl) (by decide)
        · rintro env ⟨y, rfl, hj⟩
          walk_at "dd"
          refine hp _ ⟨fun _ => ?_, fun _ => rfl⟩
          congr 1
          refine List.ext_getElem? fun j => ?_
          by_cases h : j < ys.length
          · exact hj j h
          · rw [List.getElem?_eq_none (by omega), List.getElem?_eq_none (by omega)]
    | non => walk_at "dd"; exact no rfl (by simp)
    | bl b => walk_at "dd"; exact no rfl (by simp)
    | int b => walk_at "dd"; exact no rfl (by simp)
    | str b => walk_at "dd"; exact no rfl (by simp)
    | lst b => walk_at "dd"; exact no rfl (by simp)
    | _ => cases ha
  | pool => cases n <;> exact hd.elim
  | obj c xs => cases n <;> exact hd.elim
  | dK xs => cases n <;> exact hd.elim
  | cell xs => cases n <;> exact hd.elim
theorem ok_law_same {f : Addr} {fd : FuncData} (F : Fun K "_law_same" "_law_same" s__law_same f fd) (B : Blt mg) (mf : mg "_law_same" = some (.ref f)) (bf : Binds K fd ["actual", "due"] []) :
    ∀ n, FnOk P w K mg base CX0 n f fd ["actual", "due"] (toSp K ca (aspSame n))
  | 0 => ⟨fun _ _ _ _ ⟨_, _, _, _, _, _, h, _⟩ => h.elim, fun _ _ _ _ _ _ _ _ _ _ _ _ _ ⟨_, _, _, _, _, _, h, _⟩ => h.elim⟩
  | n + 1 => same_step F B ⟨⟨f, fd, _, [], ok_law_same F B mf bf n, mf, F.kp, bf, .nil⟩⟩
end
def sNever : ASt := fun _ _ => False
theorem s_never {W : Wd} : AStm W tNever sNever := ⟨fun _ _ _ _ _ _ _ _ _ _ _ _ _ _ h => False.elim h⟩
def flD : Dat → Prop
  | .non => True
  | .bl _ => True
  | .int _ => True
  | .str _ => True
  | _ => False
section
variable {P : Program} {w : World} {K : PySem.W.Frag} {mg : Str → Option Value} {base : Heap} {ca : Nat → Addr}
def aspSameW : ASp := fun ds P => ∃ a d : Dat, ds = [a, d] ∧ plD a = true ∧ flD d ∧ ∀ b : Bool, (b = true ↔ a = d) → P (.bl b)
theorem ok_law_sameW {f : Addr} {fd : FuncData} (F : Fun K "_law_same" "_law_same" s__law_same f fd) (B : Blt mg) : FnW P w K mg base 1 f fd ["actual", "due"] (toSp K ca aspSameW) := by
  refine fun_okW F sc__law_same (fun vs H Q E h => sp_len (n := 2) (fun ds P a => by obtain ⟨_, _, rfl, _⟩ := a; rfl) h) (fun cdv A outer s H vs Q E hr h => ⟨_, (pss_cons (ps_if (PW.pt (pw_or (pt_val (pe_callB (kisi (K := K) rfl) (by rfl) B.isinstance bt_isinstance (pa_cons (pv 1) (pa_cons (pe_bltn (v := .ty "tuple") (u := .type "tuple") (by rfl) B.tuple bt_tuple rfl) pa_nil)))) (pw_or1 (pt_val (pe_callB (kisi (K := K) rfl) (by rfl) B.isinstance bt_isinstance (pa_cons (pv 1) (pa_cons (pe_bltn (v := .ty "list") (u := .type "list") (by rfl) B.list bt_list rfl) pa_nil))))))) pss_never pss_nil)
      (pss_cons (ps_if (PW.pt (pw_or (pt_cmpR op_isN (pv 1) pe_non (nomark _)) (pw_or1 (pt_val (pe_callB (kisi (K := K) rfl) (by rfl) B.isinstance bt_isinstance (pa_cons (pv 1) (pa_cons (pe_bltn (v := .ty "bool") (u := .type "bool") (by rfl) B.bool bt_bool rfl) pa_nil))))))) (pss_one (ps_ret (pe_and (pe_cmpR op_eq (pe_cmpR op_isN (pv 0) pe_non (nomark _)) (pe_cmpR op_isN (pv 1) pe_non (nomark _)) (nomark _)) (pe_and (pe_or (pe_cmpR op_isN (pv 1) pe_non (nomark _)) (pe_one (pe_callB (kisi (K := K) rfl) (by rfl) B.isinstance bt_isinstance (pa_cons (pv 0) (pa_cons (pe_bltn (v := .ty "bool") (u := .type "bool") (by rfl) B.bool bt_bool rfl) pa_nil))))) (pe_one (pe_cmpR op_eq (pv 0) (pv 1) (nomark _))))))) pss_nil)
      (pss_cons (ps_if (pt_val (pe_callB (kisi (K := K) rfl) (by rfl) B.isinstance bt_isinstance (pa_cons (pv 1) (pa_cons (pe_bltn (v := .ty "int") (u := .type "int") (by rfl) B.int bt_int rfl) pa_nil)))) (pss_one (ps_ret (pe_and (pe_callB (kisi (K := K) rfl) (by rfl) B.isinstance bt_isinstance (pa_cons (pv 0) (pa_cons (pe_bltn (v := .ty "int") (u := .type "int") (by rfl) B.int bt_int rfl) pa_nil))) (pe_and (pe_not (pe_callB (kisi (K := K) rfl) (by rfl) B.isinstance bt_isinstance (pa_cons (pv 0) (pa_cons (pe_bltn (v := .ty "bool") (u := .type "bool") (by rfl) B.bool bt_bool rfl) pa_nil)))) (pe_one (pe_cmpR op_eq (pv 0) (pv 1) (nomark _))))))) pss_nil)
      (pss_one (ps_ret (pe_and (pe_callB (kisi (K := K) rfl) (by rfl) B.isinstance bt_isinstance (pa_cons (pv 0) (pa_cons (pe_bltn (v := .ty "str") (u := .type "str") (by rfl) B.str bt_str rfl) pa_nil))) (pe_one (pe_cmpR op_eq (pv 0) (pv 1) (nomark _))))))))),
    fn_run h (fun po => (s_seq (s_if (fun _ => (a_or (a_tb (a_isT (by decide) a_var)) (a_tb (a_isT (by decide) a_var)))) s_never s_next)
      (s_seq (s_if (fun _ => (a_or (a_test (a_op pst_rv rok_isN a_var a_non)) (a_tb (a_isT (by decide) a_var)))) (s_ret fun _ => (a_andV (a_op pst_rv rok_eq (a_op pst_rv rok_isN a_var a_non) (a_op pst_rv rok_isN a_var a_non)) (a_andV (a_orV (a_op pst_rv rok_isN a_var a_non) (a_isT (by decide) a_var)) (a_op pst_rv rok_eq a_var a_var)))) s_next)
      (s_seq (s_if (fun _ => (a_tb (a_isT (by decide) a_var))) (s_ret fun _ => (a_andV (a_isT (by decide) a_var) (a_andV (a_notV (a_isT (by decide) a_var)) (a_op pst_rv rok_eq a_var a_var)))) s_next)
      (s_ret fun _ => (a_andV (a_isT (by decide) a_var) (a_op pst_rv rok_eq a_var a_var))))))) (fun ds P a => by obtain ⟨_, _, rfl, _⟩ := a; exact Nat.le_of_ble_eq_true rfl) ?_⟩)
  rintro ds P ⟨a, d, rfl, ha, hd, hp⟩
  cases d with
  | non => cases a <;> first | (cases ha; done) | (walk_at "dd"; exact hp _ (by simp))
  | bl b => cases a <;> first | (cases ha; done) | (walk_at "dd"; exact hp _ (by simp))
  | int b => cases a <;> first | (cases ha; done) | (walk_at "dd"; exact hp _ (by simp))
  | str b => cases a <;> first | (cases ha; done) | (walk_at "dd"; exact hp _ (by simp))
  | _ => exact hd.elim
end
abbrev s__law_power : Stmt := top 59
theorem sc__law_power : FnScope ["base", "exponent", "modulus", "result", "k"] ["base", "exponent", "modulus"] (defScope s__law_power) := ⟨rfl, rfl, rfl, by decide +kernel, rfl, by decide +kernel, by decide +kernel⟩
section
variable {P : Program} {w : World} {K : PySem.W.Frag} {mg : Str → Option Value} {base : Heap}
def spLPower : Sp := fun vs H Q _ => ∃ a e m : Int, vs = [.int a, .int e, .int m] ∧ 1 < m ∧ m < 2147483648 ∧ e < 4611686018427387904 ∧ 0 ≤ e ∧ Q (.int (a ^ e.toNat % m)) H
theorem ok_law_power {f : Addr} {fd : FuncData} (F : Fun K "_law_power" "_law_power" s__law_power f fd) (B : Blt mg) : FnOk P w K mg base CX0 1 f fd ["base", "exponent", "modulus"] spLPower := by
  refine F.ok sc__law_power (fun vs H Q E h => ?_) (fun cdv A outer s H vs Q E hr h => ?_)
  · obtain ⟨a, e, m, rfl, _⟩ := h
    rfl
  · obtain ⟨a, e, m, rfl, m0, m1, e1, e0, z⟩ := h
    refine ⟨_, (pss_cons (ps_set (i := 3) sc__law_power.nd rfl (.inl rfl) pe_int)
      (pss_cons (ps_for PassesOwn.never rfl (pi_range1 rfl B.range (pa_cons (pv 1) pa_nil)) (pg_name (i := 4) sc__law_power.nd rfl (.inl rfl))
      (pss_one (ps_set (i := 3) sc__law_power.nd rfl (.inl rfl) (pe_op op_mod (pe_callTy call_int1 (by rfl) B.int bt_int (pa_cons (pe_op op_mul (pv 3) (pv 0)) pa_nil)) (pv 2)))))
      (pss_one (ps_ret (pv 3))))), ?_⟩
    walk_at "go"
    refine for_range (fun i σ' H' => At (∃ y, σ' = [some (.int a), some (.int e), some (.int m), some (.int (a ^ i % m)), y] ∧ H' = H)) (.of ⟨none, ?_, rfl⟩) ?_ ?_
    · rw [Int.pow_zero, Int.emod_eq_of_lt (by omega) m0]
      rfl
    · intro i σ' H' hi hW
      obtain ⟨y, rfl, rfl⟩ := hW.out
      have bd := emod_bd (a := a ^ i) (m := m) (by omega)
      walk_at "go"
      refine .of ⟨some (V.int (0 + (i : Int))), ?_, rfl⟩
      rw [Int.pow_succ, ← mul_emod_l]
      rfl
    · intro σ' H' hW
      obtain ⟨y, rfl, rfl⟩ := hW.out
      walk_at "go"
      exact z
end
def aspLPower : ASp := fun ds P => ∃ a e m : Int, ds = [.int a, .int e, .int m] ∧ 1 < m ∧ m < 2147483648 ∧ e < 4611686018427387904 ∧ 0 ≤ e ∧ P (.int (a ^ e.toNat % m))
theorem sp_lpower {K : PySem.W.Frag} {ca : Nat → Addr} : ∀ vs H Q E, toSp K ca aspLPower vs H Q E → spLPower vs H Q E := fun vs H Q E ⟨po, F, ds, P, ok, r, ⟨a, e, m, ed, h1, h2, h3, h4, hp⟩, k⟩ => by
  subst ed
  have ev : vs = [V.int a, .int e, .int m] := RvAll.ints (ns := [a, e, m]) r
  subst ev
  exact ⟨a, e, m, rfl, h1, h2, h3, h4, k _ F H _ hp (.refl ok) (.int _)⟩
abbrev s__law_raised : Stmt := top 60
theorem sc__law_raised : FnScope ["group", "element", "exponent"] ["group", "element", "exponent"] (defScope s__law_raised) := ⟨rfl, rfl, rfl, by decide +kernel, rfl, by decide +kernel, by decide +kernel⟩
abbrev s__law_product : Stmt := top 61
theorem sc__law_product : FnScope ["group", "pairs", "result", "element", "exponent"] ["group", "pairs"] (defScope s__law_product) := ⟨rfl, rfl, rfl, by decide +kernel, rfl, by decide +kernel, by decide +kernel⟩
abbrev s__law_numbers : Stmt := top 64
theorem sc__law_numbers : FnScope ["pool", "group", "count", "k"] ["pool", "group", "count"] (defScope s__law_numbers) := ⟨rfl, rfl, rfl, by decide +kernel, rfl, by decide +kernel, by decide +kernel⟩
section
variable {P : Program} {w : World} {K : PySem.W.Frag} {mg : Str → Option Value} {base : Heap} {ca : Nat → Addr}
def aspLRaised : ASp := fun ds P => ∃ (p q e k : Int) (bs : List Int), ds = [lgD p q bs, .int e, .int k] ∧ 0 < q ∧ q < 2147483648 ∧ 1 < p ∧ p < 2147483648 ∧ P (.int (rz p q e k))
theorem ok_law_raised {f : Addr} {fd : FuncData} (F : Fun K "_law_raised" "_law_raised" s__law_raised f fd) (B : Blt mg) (C__law_power : C8.Cal P w K mg base 1 "_law_power" (toSp K ca aspLPower) []) : FnOk P w K mg base CX0 2 f fd ["group", "element", "exponent"] (toSp K ca aspLRaised) := by
  refine F.ok sc__law_raised (fun vs H Q E h => sp_len (n := 3) (fun ds P a => by obtain ⟨_, _, _, _, _, rfl, _⟩ := a; rfl) h) (fun cdv A outer s H vs Q E hr h => ⟨_, (pss_one (ps_ret (C8.pe_c C__law_power hr (by omega) rfl (pa_cons (pv 1) (pa_cons (pe_op op_mod (pe_callTy call_int1 (by rfl) B.int bt_int (pa_cons (pv 2) pa_nil)) (pe_ix (kixs (K := K) rfl) (pv 0) pe_int (fun _ _ => rfl))) (pa_cons (pe_ix (kixs (K := K) rfl) (pv 0) pe_int (fun _ _ => rfl)) pa_nil)))))),
    fn_run h (fun po => (s_ret fun _ => (a_call (a_cons a_var (a_cons (a_op pst_rv rok_I (a_b1 u_int a_var) (a_op pst_pk rok_ix (a_pk a_var) a_int)) (a_cons (a_op pst_pk rok_ix (a_pk a_var) a_int) a_nil)))))) (fun ds P a => by obtain ⟨_, _, _, _, _, rfl, _⟩ := a; exact Nat.le_of_ble_eq_true rfl) ?_⟩)
  rintro ds P ⟨p, q, e, k, bs, rfl, q0, q1, p0, p1, hp⟩
  have bd := emod_bd (a := k) q0
  refine ⟨propOnly (by walk_at "sd"), ?_⟩
  exact ⟨_, _, _, rfl, by omega, by omega, by omega, by omega, hp⟩
def aspLProduct : ASp := fun ds P => ∃ (p q : Int) (bs : List Int) (prs : List (Int × Int)), ds = [lgD p q bs, .lst (prs.map prT)] ∧ 0 < q ∧ q < 2147483648 ∧ 1 < p ∧ p < 2147483648 ∧ P (.int (prZ p q prs))
theorem ok_law_product {f : Addr} {fd : FuncData} (F : Fun K "_law_product" "_law_product" s__law_product f fd) (B : Blt mg) (C__law_raised : C8.Cal P w K mg base 2 "_law_raised" (toSp K ca aspLRaised) []) : FnOk P w K mg base CX0 3 f fd ["group", "pairs"] (toSp K ca aspLProduct) := by
  refine F.ok sc__law_product (fun vs H Q E h => sp_len (n := 2) (fun ds P a => by obtain ⟨_, _, _, _, rfl, _⟩ := a; rfl) h) (fun cdv A outer s H vs Q E hr h => ⟨_, (pss_cons (ps_set (i := 2) sc__law_product.nd rfl (.inl rfl) pe_int)
      (pss_cons (ps_for PassesOwn.never rfl (kpil (K := K) rfl (pv 1)) (kgtup (K := K) (n := 2) rfl rfl (pgs_cons (pg_name (i := 3) sc__law_product.nd rfl (.inl rfl)) (pgs_cons (pg_name (i := 4) sc__law_product.nd rfl (.inl rfl)) pgs_nil)))
      (pss_one (ps_set (i := 2) sc__law_product.nd rfl (.inl rfl) (pe_op op_mod (pe_callTy call_int1 (by rfl) B.int bt_int (pa_cons (pe_op op_mul (pv 2) (C8.pe_c C__law_raised hr (by omega) rfl (pa_cons (pv 0) (pa_cons (pv 3) (pa_cons (pv 4) pa_nil))))) pa_nil)) (pe_ix (kixs (K := K) rfl) (pv 0) pe_int (fun _ _ => rfl))))))
      (pss_one (ps_ret (pv 2))))),
    fn_run h (fun po => (s_seq (s_set fun _ => a_int)
      (s_seq (s_for (vs := [3, 4]) (fun _ => (i_list a_var)) (fun _ => (g_tup (g_cons (g_name (by decide)) (g_cons (g_name (by decide)) g_nil tot_name) tot_name)))
      (s_set fun _ => (a_op pst_rv rok_I (a_b1 u_int (a_op pst_rv rok_I a_var (a_call (a_cons a_var (a_cons a_var (a_cons a_var a_nil)))))) (a_op pst_pk rok_ix (a_pk a_var) a_int))))
      (s_ret fun _ => a_var)))) (fun ds P a => by obtain ⟨_, _, _, _, rfl, _⟩ := a; exact Nat.le_of_ble_eq_true rfl) ?_⟩)
  rintro ds P ⟨p, q, bs, prs, rfl, q0, q1, p0, p1, hp⟩
  refine forA_map (fun i env => ∃ y3 y4, env = [.d (lgD p q bs), .d (.lst (prs.map prT)), .d (.int (prF p q 1 (prs.take i))), y3, y4]) ⟨_, _, rfl⟩ ?_ ?_
  · rintro i ⟨e, k⟩ env hi ⟨y3, y4, rfl⟩ N hN
    have bd := prF_bd (q := q) p0 (prs.take i) 1 (by omega) p0
    refine ⟨p, q, _, _, bs, rfl, q0, q1, p0, p1, ?_⟩
    refine ⟨propOnly (by walk_at "sd"), propOnly (by walk_at "sd"), hN _ ⟨.d (.int e), .d (.int k), ?_⟩⟩
    rw [List.take_add_one, hi]
    show _ = [_, _, Sl.d (.int (prF p q 1 (prs.take i ++ [(e, k)]))), _, _]
    rw [prF_snoc]
    rfl
  · rintro env ⟨y3, y4, rfl⟩
    show P (.int (prF p q 1 (prs.take prs.length)))
    rw [List.take_length]
    exact hp
def aspLNumbers : ASp := fun ds P => ∃ (p q n : Int) (bs : List Int), ds = [.pool, lgD p q bs, .int n] ∧ 0 < q ∧ q < 1073741824 ∧ 0 ≤ n ∧ n ≤ 1000 ∧ ∀ ns : List Int, (ns.length : Int) = n → (∀ x ∈ ns, 0 ≤ x ∧ x < q) → P (.lst (ns.map .int))
theorem ok_law_numbers {f : Addr} {fd : FuncData} (F : Fun K "_law_numbers" "_law_numbers" s__law_numbers f fd) (B : Blt mg) (C__law_draw : C8.Cal P w K mg base 1 "_law_draw" (toSp K ca aspDraw) []) : FnOk P w K mg base CX0 2 f fd ["pool", "group", "count"] (toSp K ca aspLNumbers) := by
  refine F.ok sc__law_numbers (fun vs H Q E h => sp_len (n := 3) (fun ds P a => by obtain ⟨_, _, _, _, rfl, _⟩ := a; rfl) h) (fun cdv A outer s H vs Q E hr h => ⟨_, (pss_one (ps_ret (pe_lc (own := [("k", 3)]) (g := gName 3) (tt := tYes) rfl sc__law_numbers.nd (pi_range1 rfl B.range (pa_cons (pv 2) pa_nil)) (blkOk_by (N := ["pool", "group", "count", "k"]) (sc := defScope s__law_numbers) (by decide +kernel))
        (fun _ _ _ _ _ => (pg_name (i := 3) sc__law_numbers.nd rfl (.inl rfl))) (fun _ _ _ _ _ => pts_nil)
        (fun _ _ _ _ _ => (C8.pe_c C__law_draw hr (by omega) rfl (pa_cons (pv 0) (pa_cons (pe_ix (kixs (K := K) rfl) (pv 1) pe_int (fun _ _ => rfl)) pa_nil))))))),
    fn_run h (fun po => (s_ret fun _ => (a_fz (a_lc (vs := [3]) (i_ran1 (a_cons a_var a_nil)) (g_name (by decide)) a_yes (a_call (a_cons a_var (a_cons (a_op pst_pk rok_ix (a_pk a_var) a_int) a_nil))))))) (fun ds P a => by obtain ⟨_, _, _, _, rfl, _⟩ := a; exact Nat.le_of_ble_eq_true rfl) ?_⟩)
  rintro ds P ⟨p, q, n, bs, rfl, q0, q1, n0, n1, hp⟩
  refine ⟨by omega, by omega, by rw [List.length_map, List.length_range]; omega, ?_⟩
  refine lcA_relL (fun _ y => ∃ m, y = Dat.int m ∧ 0 ≤ m ∧ m < q) (fun i hi Q hQ => ?_) fun ys pr => ?_
  · exact ⟨q, rfl, q0, q1, fun v v0 v1 => hQ _ ⟨v, rfl, v0, v1⟩⟩
  · obtain ⟨ns, rfl, l, pr⟩ := paired_ints pr
    rw [List.length_range] at l
    refine hp ns (by omega) fun x hx => ?_
    obtain ⟨_, _, h⟩ := paired_mem pr x hx
    exact h
end
def tabN : List (Nat × Nat) := [(23, 11), (47, 23), (59, 29), (103, 17), (83, 41), (137, 17), (29, 7), (607, 101), (11, 5), (53, 13)]
def tabI : List (Int × Int) := [(23, 11), (47, 23), (59, 29), (103, 17), (83, 41), (137, 17), (29, 7), (607, 101), (11, 5), (53, 13)]
def tab : List (Int × Int) := tabN.map fun x => ((x.1 : Int), (x.2 : Int))
theorem tab_eq : tab = tabI := rfl
def rootN (p q : Nat) : Nat := (List.range 38).foldl (fun r i => if r = 1 then (2 + i) ^ ((p - 1) / q) % p else r) 1
set_option maxRecDepth 100000 in
theorem tab_ok : ∀ x ∈ tabN, 3 ≤ x.1 ∧ x.1 ≤ 1000000 ∧ 3 ≤ x.2 ∧ x.2 ≤ 1100 ∧ (x.1 - 1) % x.2 = 0 ∧ (∀ d < 1001, 2 ≤ d → d * d ≤ x.1 → x.1 % d ≠ 0) ∧ (∀ d < 34, 2 ≤ d → d * d ≤ x.2 → x.2 % d ≠ 0) ∧
    1 < rootN x.1 x.2 ∧ rootN x.1 x.2 < x.1 ∧ rootN x.1 x.2 ^ x.2 % x.1 = 1 ∧ ∀ e < x.2, 1 ≤ e → rootN x.1 x.2 ^ e % x.1 ≠ 1 := by decide +kernel
/-- what the table's rows are -/
structure Row (p q R : Int) : Prop where
  p3 : 3 ≤ p
  pm : p ≤ 1000000
  q3 : 3 ≤ q
  qm : q ≤ 1100
  dv : (p - 1) % q = 0
  pp : Pr p
  qp : Pr q
  r1 : 1 < R
  rp : R < p
  rq : R ^ q.toNat % p = 1
  ro : ∀ e : Nat, 1 ≤ e → (e : Int) < q → R ^ e % p ≠ 1
theorem pr_of {n B : Nat} (h2 : 2 ≤ n) (hB : n < B * B) (h : ∀ d < B, 2 ≤ d → d * d ≤ n → n % d ≠ 0) : Pr (n : Int) := by
  refine ⟨by omega, fun d d2 dd e => ?_⟩
  obtain ⟨k, rfl⟩ : ∃ k : Nat, d = k := ⟨d.toNat, by omega⟩
  have kk : k * k ≤ n := by
    have : ((k * k : Nat) : Int) ≤ (n : Int) := by
      rw [Int.natCast_mul]
      exact dd
    omega
  have kB : k < B := by
    refine Nat.lt_of_not_le fun z => ?_
    have := Nat.mul_le_mul z z
    omega
  refine h k kB (by omega) kk ?_
  have : ((n % k : Nat) : Int) = 0 := by
    rw [Int.natCast_emod]
    exact e
  omega
theorem row_of {p q : Int} (h : (p, q) ∈ tab) : Row p q (rootN p.toNat q.toNat) := by
  unfold tab at h
  obtain ⟨⟨a, b⟩, hm, e⟩ := List.mem_map.mp h
  obtain ⟨rfl, rfl⟩ := Prod.mk.inj e
  obtain ⟨h1, h2, h3, h4, h5, h6, h7, h8, h9, h10, h11⟩ := tab_ok _ hm
  simp only at h1 h2 h3 h4 h5 h6 h7 h8 h9 h10 h11
  rw [Int.toNat_natCast, Int.toNat_natCast]
  have cast : ∀ e : Nat, ((rootN a b : Nat) : Int) ^ e % (a : Int) = ((rootN a b ^ e % a : Nat) : Int) := fun e => by
    rw [Int.natCast_emod, Int.natCast_pow]
  generalize rootN a b = R at h8 h9 h10 h11 cast
  refine ⟨by omega, by omega, by omega, by omega, ?_, pr_of (by omega) (B := 1001) (by omega) h6, pr_of (by omega) (B := 34) (by omega) h7, by omega, by omega, ?_, fun e e1 e2 => ?_⟩
  · rw [show (a : Int) - 1 = ((a - 1 : Nat) : Int) by omega, ← Int.natCast_emod, h5]
    rfl
  · rw [Int.toNat_natCast, cast, h10]
    rfl
  · rw [cast]
    have := h11 e (by omega) e1
    omega
/-- the powers of the root are different -/
theorem Row.inj {p q R : Int} (r : Row p q R) {i j : Nat} (hij : i < j) (hj : (j : Int) < q) : R ^ i % p ≠ R ^ j % p := by
  intro e
  have qn : ∃ n : Nat, q = n := ⟨q.toNat, by have := r.q3; omega⟩
  obtain ⟨n, rfl⟩ := qn
  have e2 : R ^ i * R ^ (n - i) % p = R ^ j * R ^ (n - i) % p := by rw [← mul_emod_l, e, mul_emod_l]
  rw [← Int.pow_add, ← Int.pow_add, show i + (n - i) = n by omega, show j + (n - i) = n + (j - i) by omega, Int.pow_add, ← mul_emod_l] at e2
  have rq := r.rq
  rw [Int.toNat_natCast] at rq
  rw [rq, Int.one_mul] at e2
  exact r.ro (j - i) (by omega) (by omega) e2.symm
theorem root_el {p q R : Int} (r : Row p q R) {e : Nat} (h1 : 1 ≤ e) (h2 : (e : Int) < q) : R ^ e % p ≠ 1 ∧ El p q (R ^ e % p) := by
  have hp := r.p3
  have bd := emod_bd (a := R ^ e) (m := p) (by omega)
  have ne := r.ro e h1 h2
  have pq : (R ^ e % p) ^ q.toNat % p = 1 := by
    rw [pow_emod, ← Int.pow_mul, Nat.mul_comm, Int.pow_mul, ← pow_emod, r.rq, Int.one_pow]
    exact Int.emod_eq_of_lt (by omega) (by omega)
  refine ⟨ne, ?_, bd.2, pq⟩
  refine Classical.byContradiction fun hz => ?_
  have z : R ^ e % p = 0 := by omega
  rw [z] at pq
  have q3 := r.q3
  rw [show q.toNat = (q.toNat - 1) + 1 by omega, Int.pow_succ, Int.mul_zero, Int.zero_emod] at pq
  omega
theorem nodup_le {α : Type} [DecidableEq α] : ∀ {l m : List α}, l.Nodup → (∀ x ∈ l, x ∈ m) → l.length ≤ m.length
  | [], _, _, _ => Nat.zero_le _
  | a :: l, m, h, s => by
    obtain ⟨n1, n2⟩ := List.nodup_cons.mp h
    have ha := s a (List.mem_cons_self ..)
    have ih := nodup_le (l := l) (m := m.erase a) n2 fun x hx => (List.mem_erase_of_ne (fun e => by subst e; exact n1 hx)).mpr (s x (List.mem_cons_of_mem _ hx))
    rw [List.length_erase_of_mem ha] at ih
    have := List.length_pos_of_mem ha
    rw [List.length_cons]
    omega
/-- what _law_group hands back -/
structure GG (p q : Int) (bs : List Int) (count least : Int) : Prop where
  tb : (p, q) ∈ tab
  ql : least ≤ q
  qc : count < q
  ln : (bs.length : Int) = count
  nd : bs.Nodup
  po : ∀ b ∈ bs, ∃ e : Nat, 1 ≤ e ∧ (e : Int) < q ∧ b = (rootN p.toNat q.toNat : Int) ^ e % p
def rootF (p q : Int) : Nat → Int
  | 0 => 1
  | i + 1 => if rootF p q i = 1 then (2 + i : Int) ^ ((p - 1) / q).toNat % p else rootF p q i
theorem rootF_nat (a b : Nat) (ha : 1 ≤ a) : ∀ i, rootF a b i = (((List.range i).foldl (fun r i => if r = 1 then (2 + i) ^ ((a - 1) / b) % a else r) 1 : Nat) : Int)
  | 0 => rfl
  | i + 1 => by
    rw [List.range_succ, List.foldl_append]
    show (if rootF a b i = 1 then _ else _) = _
    rw [rootF_nat a b ha i]
    generalize (List.range i).foldl (fun r i => if r = 1 then (2 + i) ^ ((a - 1) / b) % a else r) 1 = r
    show (if (r : Int) = 1 then _ else _) = ((if r = 1 then _ else _ : Nat) : Int)
    have e : (((a : Int) - 1) / (b : Int)).toNat = (a - 1) / b := by
      rw [show (a : Int) - 1 = ((a - 1 : Nat) : Int) by omega, ← Int.natCast_ediv, Int.toNat_natCast]
    by_cases h : r = 1
    · rw [if_pos (by omega), if_pos h, e, Int.natCast_emod, Int.natCast_pow]
      rfl
    · rw [if_neg (by omega), if_neg h]
theorem rootF_end {p q : Int} (h : 1 ≤ p) (hq : 0 ≤ q) : rootF p q 38 = (rootN p.toNat q.toNat : Int) := by
  obtain ⟨a, rfl⟩ : ∃ a : Nat, p = a := ⟨p.toNat, by omega⟩
  obtain ⟨b, rfl⟩ : ∃ b : Nat, q = b := ⟨q.toNat, by omega⟩
  rw [Int.toNat_natCast, Int.toNat_natCast, rootF_nat a b (by omega)]
  rfl
def okRow (count least : Int) (x : Int × Int) : Bool := decide (least ≤ x.2) && decide (count < x.2)
theorem mm (a b p : Int) : a % p * (b % p) % p = a * b % p := (Int.mul_emod a b p).symm
theorem one_mod {p : Int} (hp : 1 < p) : (1 : Int) % p = 1 := Int.emod_eq_of_lt (by omega) hp
theorem pow_mod_q {p q e : Int} (q0 : 0 < q) (hp : 1 < p) (h : e ^ q.toNat % p = 1) {a b : Nat} (hab : (a : Int) % q = (b : Int) % q) : e ^ a % p = e ^ b % p := by
  obtain ⟨n, rfl⟩ : ∃ n : Nat, q = n := ⟨q.toNat, by omega⟩
  rw [Int.toNat_natCast] at h
  have red : ∀ c : Nat, e ^ c % p = e ^ (c % n) % p := fun c => by
    have e2 : e ^ (n * (c / n)) % p = 1 := by
      rw [Int.pow_mul, ← pow_emod, h, Int.one_pow, one_mod hp]
    calc e ^ c % p = e ^ (n * (c / n) + c % n) % p := by rw [Nat.div_add_mod]
      _ = e ^ (n * (c / n)) % p * (e ^ (c % n) % p) % p := by rw [Int.pow_add, mm]
      _ = e ^ (c % n) % p := by rw [e2, Int.one_mul, Int.emod_emod]
  rw [red a, red b]
  have e3 : a % n = b % n := by
    have := hab
    rw [← Int.natCast_emod, ← Int.natCast_emod] at this
    omega
  rw [e3]
theorem rz_add {p q e : Int} (q0 : 0 < q) (hp : 1 < p) (h : e ^ q.toNat % p = 1) (k j : Int) : rz p q e k * rz p q e j % p = rz p q e (k + j) := by
  unfold rz
  rw [mm, ← Int.pow_add]
  have b1 := emod_bd (a := k) q0
  have b2 := emod_bd (a := j) q0
  have b3 := emod_bd (a := k + j) q0
  refine pow_mod_q q0 hp h ?_
  rw [Int.natCast_add, Int.toNat_of_nonneg b1.1, Int.toNat_of_nonneg b2.1, Int.toNat_of_nonneg b3.1, Int.emod_emod, ← Int.add_emod]
theorem rz_root {p q e : Int} (hp : 1 < p) (h : e ^ q.toNat % p = 1) (k : Int) : rz p q e k ^ q.toNat % p = 1 := by
  unfold rz
  rw [pow_emod, ← Int.pow_mul, Nat.mul_comm, Int.pow_mul, ← pow_emod, h, Int.one_pow, one_mod hp]
theorem rz_mod (p q e k : Int) : rz p q e (k % q) = rz p q e k := by
  unfold rz
  rw [Int.emod_emod]
theorem mul_root {p : Int} {n : Nat} {a b : Int} (hp : 1 < p) (ha : a ^ n % p = 1) (hb : b ^ n % p = 1) : (a * b % p) ^ n % p = 1 := by
  rw [pow_emod, Int.mul_pow, Int.mul_emod, ha, hb, Int.one_mul, one_mod hp]
theorem prF_root {p q : Int} (hp : 1 < p) : ∀ (l : List (Int × Int)) (a : Int), a ^ q.toNat % p = 1 → (∀ x ∈ l, x.1 ^ q.toNat % p = 1) → prF p q a l ^ q.toNat % p = 1
  | [], a, h, _ => h
  | (e, k) :: r, a, h, hl => prF_root hp r _ (mul_root hp h (rz_root hp (hl (e, k) List.mem_cons_self) k)) fun x hx => hl x (List.mem_cons_of_mem _ hx)
abbrev s__law_group : Stmt := top 63
theorem sc__law_group : FnScope ["pool", "count", "least", "pairs", "p", "q", "root", "number", "bases", "at", "step", "k", "exponent", "base", "pair"] ["pool", "count", "least"] (defScope s__law_group) := ⟨rfl, rfl, rfl, by decide +kernel, rfl, by decide +kernel, by decide +kernel⟩
section
variable {P : Program} {w : World} {K : PySem.W.Frag} {mg : Str → Option Value} {base : Heap} {ca : Nat → Addr}
def aspLGroup : ASp := fun ds P => ∃ count least : Int, ds = [.pool, .int count, .int least] ∧ 0 ≤ count ∧ count ≤ 1000 ∧ 0 < (tab.filter (okRow count least)).length ∧ ∀ p q bs, GG p q bs count least → P (lgD p q bs)
set_option maxHeartbeats 1000000 in
theorem ok_law_group {f : Addr} {fd : FuncData} (F : Fun K "_law_group" "_law_group" s__law_group f fd) (B : Blt mg) (C__law_draw : C8.Cal P w K mg base 1 "_law_draw" (toSp K ca aspDraw) []) (C__law_power : C8.Cal P w K mg base 1 "_law_power" (toSp K ca aspLPower) []) : FnOk P w K mg base CX0 2 f fd ["pool", "count", "least"] (toSp K ca aspLGroup) := by
  refine F.ok sc__law_group (fun vs H Q E h => sp_len (n := 3) (fun ds P a => by obtain ⟨_, _, rfl, _⟩ := a; rfl) h) (fun cdv A outer s H vs Q E hr h => ⟨_, (pss_cons (ps_set (i := 3) sc__law_group.nd rfl (.inl rfl) (pe_lst (pa_cons (pe_tupF (pa_cons pe_int (pa_cons pe_int pa_nil))) (pa_cons (pe_tupF (pa_cons pe_int (pa_cons pe_int pa_nil))) (pa_cons (pe_tupF (pa_cons pe_int (pa_cons pe_int pa_nil))) (pa_cons (pe_tupF (pa_cons pe_int (pa_cons pe_int pa_nil))) (pa_cons (pe_tupF (pa_cons pe_int (pa_cons pe_int pa_nil))) (pa_cons (pe_tupF (pa_cons pe_int (pa_cons pe_int pa_nil))) (pa_cons (pe_tupF (pa_cons pe_int (pa_cons pe_int pa_nil))) (pa_cons (pe_tupF (pa_cons pe_int (pa_cons pe_int pa_nil))) (pa_cons (pe_tupF (pa_cons pe_int (pa_cons pe_int pa_nil))) (pa_cons (pe_tupF (pa_cons pe_int (pa_cons pe_int pa_nil))) pa_nil))))))))))))
      (pss_cons (ps_setLc (i := 3) (own := [("pair", 14)]) (g := gName 14) rfl sc__law_group.nd rfl rfl (sw_true rfl rfl rfl (by decide +kernel)) (kpil (K := K) rfl (pv 3)) (blkOk_by (N := ["pool", "count", "least", "pairs", "p", "q", "root", "number", "bases", "at", "step", "k", "exponent", "base", "pair"]) (sc := defScope s__law_group) (by decide +kernel))
        (fun _ _ _ _ _ => (pg_name (i := 14) sc__law_group.nd rfl (.inl rfl))) (fun _ _ _ _ _ => pts_one (PW.pt (pw_and (pt_cmpR op_ge (pe_ix (kixs (K := K) rfl) (pv 14) pe_int (fun _ _ => rfl)) (pv 2) (nomark _)) (pw_and1 (pt_cmpR op_gt (pe_ix (kixs (K := K) rfl) (pv 14) pe_int (fun _ _ => rfl)) (pv 1) (nomark _))))))
        (fun _ _ _ _ _ => (pv 14)))
      (pss_cons (ps_asg (pe_ix (kixs (K := K) rfl) (pv 3) (C8.pe_c C__law_draw hr (by omega) rfl (pa_cons (pv 0) (pa_cons (pe_callB (klen (K := K) rfl) (by rfl) B.len bt_len (pa_cons (pv 3) pa_nil)) pa_nil))) (fun _ _ => rfl)) (kgtup (K := K) (n := 2) rfl rfl (pgs_cons (pg_name (i := 4) sc__law_group.nd rfl (.inl rfl)) (pgs_cons (pg_name (i := 5) sc__law_group.nd rfl (.inl rfl)) pgs_nil))))
      (pss_cons (ps_set (i := 6) sc__law_group.nd rfl (.inl rfl) pe_int)
      (pss_cons (ps_for PassesOwn.never rfl (pi_range2 rfl B.range (pa_cons pe_int (pa_cons pe_int pa_nil))) (pg_name (i := 7) sc__law_group.nd rfl (.inl rfl))
      (pss_one (ps_if (pt_cmpR op_eq (pv 6) pe_int (nomark _)) (pss_one (ps_set (i := 6) sc__law_group.nd rfl (.inl rfl) (C8.pe_c C__law_power hr (by omega) rfl (pa_cons (pv 7) (pa_cons (pe_op op_fdiv (pe_op op_sub (pv 4) pe_int) (pv 5)) (pa_cons (pv 4) pa_nil)))))) pss_nil)))
      (pss_cons (ps_set (i := 8) sc__law_group.nd rfl (.inl rfl) (pe_lst pa_nil))
      (pss_cons (ps_set (i := 9) sc__law_group.nd rfl (.inl rfl) (C8.pe_c C__law_draw hr (by omega) rfl (pa_cons (pv 0) (pa_cons (pe_op op_sub (pv 5) pe_int) pa_nil))))
      (pss_cons (ps_set (i := 10) sc__law_group.nd rfl (.inl rfl) (pe_op op_add pe_int (C8.pe_c C__law_draw hr (by omega) rfl (pa_cons (pv 0) (pa_cons (pe_op op_sub (pv 5) pe_int) pa_nil)))))
      (pss_cons (ps_for PassesOwn.never rfl (pi_range1 rfl B.range (pa_cons (pe_op op_sub (pv 5) pe_int) pa_nil)) (pg_name (i := 11) sc__law_group.nd rfl (.inl rfl))
      (pss_one (ps_if (pt_cmpR op_lt (pe_callB (klen (K := K) rfl) (by rfl) B.len bt_len (pa_cons (pv 8) pa_nil)) (pv 1) (nomark _)) (pss_cons (ps_set (i := 12) sc__law_group.nd rfl (.inl rfl) (pe_op op_add pe_int (pe_op op_mod (pe_callTy call_int1 (by rfl) B.int bt_int (pa_cons (pe_op op_add (pv 9) (pe_op op_mul (pv 11) (pv 10))) pa_nil)) (pe_op op_sub (pv 5) pe_int))))
      (pss_cons (ps_set (i := 13) sc__law_group.nd rfl (.inl rfl) (C8.pe_c C__law_power hr (by omega) rfl (pa_cons (pv 6) (pa_cons (pv 12) (pa_cons (pv 4) pa_nil)))))
      (pss_one (ps_if (pt_cmpR (knin (K := K) rfl) (pv 13) (pv 8) rfl) (pss_one (ps_expr (pe_bm PySem.F.plainAttrs_list PySem.F.slot_list_append PySem.F.type_list_append mt_append (pv 8) (pa_cons (pv 13) pa_nil)))) pss_nil)))) pss_nil)))
      (pss_cons (ps_for PassesOwn.never rfl (pi_range2 rfl B.range (pa_cons pe_int (pa_cons (pv 5) pa_nil))) (pg_name (i := 12) sc__law_group.nd rfl (.inl rfl))
      (pss_cons (ps_set (i := 13) sc__law_group.nd rfl (.inl rfl) (C8.pe_c C__law_power hr (by omega) rfl (pa_cons (pv 6) (pa_cons (pv 12) (pa_cons (pv 4) pa_nil)))))
      (pss_one (ps_if (PW.pt (pw_and (pt_cmpR (knin (K := K) rfl) (pv 13) (pv 8) rfl) (pw_and1 (pt_cmpR op_lt (pe_callB (klen (K := K) rfl) (by rfl) B.len bt_len (pa_cons (pv 8) pa_nil)) (pv 1) (nomark _))))) (pss_one (ps_expr (pe_bm PySem.F.plainAttrs_list PySem.F.slot_list_append PySem.F.type_list_append mt_append (pv 8) (pa_cons (pv 13) pa_nil)))) pss_nil))))
      (pss_one (ps_ret (pe_tupF (pa_cons (pv 4) (pa_cons (pv 5) (pa_cons (pv 8) pa_nil)))))))))))))))),
    fn_run h (fun po => (s_seq (s_set fun _ => (a_fz (a_lst (a_cons (a_tup (a_cons a_int (a_cons a_int a_nil))) (a_cons (a_tup (a_cons a_int (a_cons a_int a_nil))) (a_cons (a_tup (a_cons a_int (a_cons a_int a_nil))) (a_cons (a_tup (a_cons a_int (a_cons a_int a_nil))) (a_cons (a_tup (a_cons a_int (a_cons a_int a_nil))) (a_cons (a_tup (a_cons a_int (a_cons a_int a_nil))) (a_cons (a_tup (a_cons a_int (a_cons a_int a_nil))) (a_cons (a_tup (a_cons a_int (a_cons a_int a_nil))) (a_cons (a_tup (a_cons a_int (a_cons a_int a_nil))) (a_cons (a_tup (a_cons a_int (a_cons a_int a_nil))) a_nil)))))))))))))
      (s_seq (s_set fun _ => (a_fz (a_lc (vs := [14]) (i_list a_var) (g_name (by decide)) (a_and (a_test (a_op pst_rv rok_B0 (a_op pst_pk rok_ix (a_pk a_var) a_int) a_var)) (a_test (a_op pst_rv rok_B0 (a_op pst_pk rok_ix (a_pk a_var) a_int) a_var))) a_var)))
      (s_seq (s_asg (vs := [4, 5]) (fun _ => (a_op pst_pk rok_ix (a_pk a_var) (a_call (a_cons a_var (a_cons (a_b1 u_len (a_pk a_var)) a_nil))))) (fun _ => (g_tup (g_cons (g_name (by decide)) (g_cons (g_name (by decide)) g_nil tot_name) tot_name))))
      (s_seq (s_set fun _ => a_int)
      (s_seq (s_for (vs := [7]) (fun _ => (i_ran2 (a_cons a_int (a_cons a_int a_nil)))) (fun _ => (g_name (by decide)))
      (s_if (fun _ => (a_test (a_op pst_rv rok_eq a_var a_int))) (s_set fun _ => (a_call (a_cons a_var (a_cons (a_op pst_rv rok_I (a_op pst_rv rok_I0 a_var a_int) a_var) (a_cons a_var a_nil))))) s_next))
      (s_seq (s_setO fun _ => (a_lst a_nil))
      (s_seq (s_set fun _ => (a_call (a_cons a_var (a_cons (a_op pst_rv rok_I0 a_var a_int) a_nil))))
      (s_seq (s_set fun _ => (a_op pst_rv rok_I0 a_int (a_call (a_cons a_var (a_cons (a_op pst_rv rok_I0 a_var a_int) a_nil)))))
      (s_seq (s_for (vs := [11]) (fun _ => (i_ran1 (a_cons (a_op pst_rv rok_I0 a_var a_int) a_nil))) (fun _ => (g_name (by decide)))
      (s_if (fun _ => (a_test (a_op pst_rv rok_B0 (a_b1 u_len a_peek) a_var))) (s_seq (s_set fun _ => (a_op pst_rv rok_I0 a_int (a_op pst_rv rok_I (a_b1 u_int (a_op pst_rv rok_I0 a_var (a_op pst_rv rok_I a_var a_var))) (a_op pst_rv rok_I0 a_var a_int))))
      (s_seq (s_set fun _ => (a_call (a_cons a_var (a_cons a_var (a_cons a_var a_nil)))))
      (s_if (fun _ => (a_test (a_op pst_rv rok_in a_var a_peek))) (s_app fun _ => a_var) s_next))) s_next))
      (s_seq (s_for (vs := [12]) (fun _ => (i_ran2 (a_cons a_int (a_cons a_var a_nil)))) (fun _ => (g_name (by decide)))
      (s_seq (s_set fun _ => (a_call (a_cons a_var (a_cons a_var (a_cons a_var a_nil)))))
      (s_if (fun _ => (a_and (a_test (a_op pst_rv rok_in a_var a_peek)) (a_test (a_op pst_rv rok_B0 (a_b1 u_len a_peek) a_var)))) (s_app fun _ => a_var) s_next)))
      (s_fz (i := 8) (s_ret fun _ => (a_tup (a_cons a_var (a_cons a_var (a_cons a_var a_nil))))))))))))))))) (fun ds P a => by obtain ⟨_, _, rfl, _⟩ := a; exact Nat.le_of_ble_eq_true rfl) ?_⟩)
  rintro ds P ⟨count, least, rfl, n0, n1, hf, hp⟩
  walk_at "dd"
  refine ⟨by decide, ?_⟩
  refine lcA_filL (f := prT) (xs := tabI) prT (okRow count least) (fun x hx Q q1 q2 => ?_) ?_
  · unfold prT
    walk_at "dd"
    refine twoD (fun c1 => twoD (fun c2 => ?_) (fun c2 => ?_)) (fun c1 => ?_)
    · exact q1 (by unfold okRow; rw [decide_eq_true c1, decide_eq_true c2]; rfl)
    · exact q2 (by unfold okRow; rw [decide_eq_false c2, Bool.and_false])
    · exact q2 (by unfold okRow; rw [decide_eq_false c1, Bool.false_and])
  rw [← tab_eq]
  have hfm : ∀ x ∈ tab.filter (okRow count least), x ∈ tab ∧ least ≤ x.2 ∧ count < x.2 := fun x hx => by
    obtain ⟨h1, h2⟩ := List.mem_filter.mp hx
    unfold okRow at h2
    rw [Bool.and_eq_true, decide_eq_true_eq, decide_eq_true_eq] at h2
    exact ⟨h1, h2⟩
  have hfl : (tab.filter (okRow count least)).length ≤ 20 := Nat.le_trans (List.length_filter_le _ _) (Nat.le_of_ble_eq_true rfl)
  generalize tab.filter (okRow count least) = rows at hf hfm hfl ⊢
  refine ⟨_, rfl, by rw [List.length_map]; omega, by rw [List.length_map]; omega, fun v v0 v1 => ?_⟩
  rw [List.length_map] at v1
  obtain ⟨⟨p, q⟩, hpq⟩ : ∃ x, rows[v.toNat]? = some x := ⟨_, List.getElem?_eq_getElem (show v.toNat < rows.length by omega)⟩
  rw [kIx_l, atD (j := v.toNat) (v := prT (p, q)) (by omega) (by rw [List.getElem?_map, hpq]; rfl)]
  obtain ⟨hmt, hok1, hok2⟩ := hfm _ (List.mem_of_getElem? hpq)
  have row := row_of hmt
  have p3 := row.p3
  have pm := row.pm
  have q3 := row.q3
  have qm := row.qm
  have dv0 : 0 ≤ (p - 1) / q := Int.ediv_nonneg (by omega) (by omega)
  have dv1 : (p - 1) / q ≤ p - 1 := Int.ediv_le_self _ (by omega)
  generalize Dat.lst (rows.map prT) = RW
  unfold prT
  walk_at "dd"
  refine ⟨⟨by omega, by omega, by omega, by omega⟩, ?_⟩
  refine forA_ran (n := 38) (fun i env => ∃ y7, env = [.d .pool, .d (.int count), .d (.int least), .d RW, .d (.int p), .d (.int q), .d (.int (rootF p q i)), y7, .u, .u, .u, .u, .u, .u, .u]) ⟨.u, rfl⟩ ?_ ?_
  · rintro i env hi ⟨y7, rfl⟩ N hN
    walk_at "dd"
    refine twoD (fun c1 => ?_) (fun c1 => ?_)
    · refine ⟨⟨by omega, by omega⟩, ?_⟩
      refine ⟨_, _, _, rfl, by omega, by omega, by omega, dv0, hN _ ⟨.d (.int (2 + (i : Int))), ?_⟩⟩
      rw [show rootF p q (i + 1) = (2 + i : Int) ^ ((p - 1) / q).toNat % p by show (if _ then _ else _) = _; rw [if_pos c1]]
    · refine hN _ ⟨.d (.int (2 + (i : Int))), ?_⟩
      rw [show rootF p q (i + 1) = rootF p q i by show (if _ then _ else _) = _; rw [if_neg c1]]
  rintro env ⟨y7, rfl⟩
  rw [rootF_end (by omega) (by omega)]
  have r1 := row.r1
  have rp := row.rp
  generalize hR : ((rootN p.toNat q.toNat : Nat) : Int) = R at row r1 rp ⊢
  walk_at "dd"
  refine ⟨_, rfl, by omega, by omega, fun at' a0 a1 => ⟨_, rfl, by omega, by omega, fun st s0 s1 => ?_⟩⟩
  walk_at "dd"
  refine ⟨by omega, by omega, ?_⟩
  have GB : ∀ (ns : List Int) (e : Int), 1 ≤ e → e < q → (∀ b ∈ ns, ∃ e : Nat, 1 ≤ e ∧ (e : Int) < q ∧ b = R ^ e % p) → ∀ b ∈ ns ++ [R ^ e.toNat % p], ∃ e : Nat, 1 ≤ e ∧ (e : Int) < q ∧ b = R ^ e % p := fun ns e e1 e2 h b hb => by
    rcases List.mem_append.mp hb with hb | hb
    · exact h b hb
    · exact ⟨e.toNat, by omega, by omega, List.mem_singleton.mp hb⟩
  have ND : ∀ (ns : List Int) (x : Int), ns.Nodup → x ∉ ns → (ns ++ [x]).Nodup := fun ns x h n => List.nodup_append.mpr ⟨h, by simp, fun a ha b hb => by rw [List.mem_singleton.mp hb]; intro e; subst e; exact n ha⟩
  refine forA_ran (fun i env => ∃ ns y11 y12 y13, env = [.d .pool, .d (.int count), .d (.int least), .d RW, .d (.int p), .d (.int q), .d (.int R), y7, .o (ns.map Dat.int), .d (.int at'), .d (.int (1 + st)), y11, y12, y13, .u] ∧ ns.Nodup ∧ (ns.length : Int) ≤ count ∧ ∀ b ∈ ns, ∃ e : Nat, 1 ≤ e ∧ (e : Int) < q ∧ b = R ^ e % p) ⟨[], _, _, _, rfl, List.nodup_nil, n0, fun _ h => nomatch h⟩ ?_ ?_
  · rintro i env hi ⟨ns, y11, y12, y13, rfl, nd, ln, po⟩ N hN
    walk_at "dd"
    rw [List.length_map]
    refine twoD (fun c1 => ?_) (fun c1 => hN _ ⟨ns, _, _, _, rfl, nd, ln, po⟩)
    have bm := emod_bd (a := at' + (0 + (i : Int)) * (1 + st)) (m := q - 1) (by omega)
    refine ⟨.inl ⟨by omega, by omega⟩, ?_⟩
    refine ⟨by omega, ?_⟩
    generalize (at' + (0 + (i : Int)) * (1 + st)) % (q - 1) = ex at bm ⊢
    refine ⟨_, _, _, rfl, by omega, by omega, by omega, by omega, ?_⟩
    refine kIn_i ?_
    walk_at "dd"
    refine twoN (fun c2 => ?_) (fun c2 => hN _ ⟨ns, _, _, _, rfl, nd, ln, po⟩)
    refine ⟨by omega, hN _ ⟨ns ++ [R ^ (1 + ex).toNat % p], .d (.int (0 + (i : Int))), .d (.int (1 + ex)), .d (.int (R ^ (1 + ex).toNat % p)), ?_, ND _ _ nd c2, ?_, GB ns _ (by omega) (by omega) po⟩⟩
    · rw [List.map_append]
      rfl
    · rw [List.length_append]
      simp only [List.length_cons, List.length_nil]
      omega
  · rintro env ⟨ns, y11, y12, y13, rfl, nd, ln, po⟩
    walk_at "dd"
    refine ⟨⟨by omega, by omega, by omega, by omega⟩, ?_⟩
    refine forA_ran (fun i env => ∃ ns y12 y13, env = [.d .pool, .d (.int count), .d (.int least), .d RW, .d (.int p), .d (.int q), .d (.int R), y7, .o (ns.map Dat.int), .d (.int at'), .d (.int (1 + st)), y11, y12, y13, .u] ∧ ns.Nodup ∧ (ns.length : Int) ≤ count ∧ (∀ b ∈ ns, ∃ e : Nat, 1 ≤ e ∧ (e : Int) < q ∧ b = R ^ e % p) ∧ ((ns.length : Int) < count → ∀ e : Nat, 1 ≤ e → e < 1 + i → R ^ e % p ∈ ns)) ⟨ns, _, _, rfl, nd, ln, po, fun _ e e1 e2 => by omega⟩ ?_ ?_
    · rintro i env hi ⟨ns, y12, y13, rfl, nd, ln, po, al⟩ N hN
      have i2 : (1 : Int) + i < q := by omega
      have i3 : (1 + (i : Int)).toNat = 1 + i := by omega
      walk_at "dd"
      have skip : (R ^ (1 + (i : Int)).toNat % p ∈ ns ∨ ¬ (ns.length : Int) < count) → ((ns.length : Int) < count → ∀ e : Nat, 1 ≤ e → e < 1 + (i + 1) → R ^ e % p ∈ ns) := fun h hl e e1 e2 => by
        by_cases he : e < 1 + i
        · exact al hl e e1 he
        · have : e = 1 + i := by omega
          subst this
          rw [i3] at h
          exact h.resolve_right (fun z => z hl)
      refine ⟨_, _, _, rfl, by omega, by omega, by omega, by omega, ?_⟩
      refine kIn_i ?_
      walk_at "dd"
      rw [List.length_map]
      refine twoN (fun c2 => ?_) (fun c2 => hN _ ⟨ns, _, _, rfl, nd, ln, po, skip (.inl c2)⟩)
      refine twoD (fun c1 => ?_) (fun c1 => hN _ ⟨ns, _, _, rfl, nd, ln, po, skip (.inr c1)⟩)
      refine ⟨by omega, hN _ ⟨ns ++ [R ^ (1 + (i : Int)).toNat % p], .d (.int (1 + (i : Int))), .d (.int (R ^ (1 + (i : Int)).toNat % p)), ?_, ND _ _ nd c2, ?_, GB ns _ (by omega) i2 po, fun hl e e1 e2 => ?_⟩⟩
      · rw [List.map_append]
        rfl
      · rw [List.length_append]
        simp only [List.length_cons, List.length_nil]
        omega
      · by_cases he : e < 1 + i
        · exact List.mem_append_left _ (al c1 e e1 he)
        · have : e = 1 + i := by omega
          subst this
          rw [i3]
          exact List.mem_append_right _ (List.mem_singleton.mpr rfl)
    · rintro env ⟨ns, y12, y13, rfl, nd, ln, po, al⟩
      have full : (ns.length : Int) = count := by
        refine Classical.byContradiction fun hne => ?_
        have hl : (ns.length : Int) < count := by omega
        have al' := al hl
        have sub : ((List.range (q.toNat - 1)).map fun e => R ^ (e + 1) % p).length ≤ ns.length := by
          refine nodup_le ?_ fun x hx => ?_
          · refine List.pairwise_map.mpr (List.Pairwise.imp_of_mem (fun {a b} ha hb hab => ?_) List.pairwise_lt_range)
            have := List.mem_range.mp hb
            exact row.inj (show a + 1 < b + 1 by omega) (by omega)
          · obtain ⟨e, he, rfl⟩ := List.mem_map.mp hx
            have := List.mem_range.mp he
            exact al' (e + 1) (by omega) (by omega)
        rw [List.length_map, List.length_range] at sub
        omega
      walk_at "dd"
      exact hp p q ns ⟨hmt, hok1, hok2, full, nd, fun b hb => by
        obtain ⟨e, e1, e2, e3⟩ := po b hb
        exact ⟨e, e1, e2, by rw [hR]; exact e3⟩⟩
end
/-- the unknowns of a law's statement -/
def nmX (k : Nat) : Str := ("x" : Str) ++ (toString (0 + (k : Int)) : Str)
def nms (n : Nat) : List Str := (List.range n).map nmX
/-- a base, as far as the sums ask -/
def Rt (p q b : Int) : Prop := 0 ≤ b ∧ b < p ∧ b ^ q.toNat % p = 1
/-- what the laws' sums need of a group -/
structure GB (p q : Int) (bs : List Int) : Prop where
  p3 : 3 ≤ p
  pm : p ≤ 1000000
  q3 : 3 ≤ q
  qm : q ≤ 1100
  l1 : 0 < bs.length
  lm : bs.length ≤ 1000
  rt : ∀ b ∈ bs, Rt p q b
section
variable {P : Program} {w : World} {K : PySem.W.Frag} {mg : Str → Option Value} {base : Heap} {ca : Nat → Addr}
theorem ix_sq {α : Type} {k : Bool} {f : α → Dat} {xs : List α} {v : Int} {j : Nat} {x : α} {P : Dat → Prop} (e : v = (j : Int)) (h1 : xs[j]? = some x) (h : P (f x)) : kIx (sqD k (xs.map f)) (.int v) P := by
  cases k with
  | true => exact ix_atT (f := f) e h1 h
  | false => exact ix_at (f := f) e h1 h
end
theorem prF_acc {p q : Int} : ∀ (l : List (Int × Int)) (a : Int), prF p q a l % p = a * prZ p q l % p
  | [], a => by
    show a % p = a * 1 % p
    rw [Int.mul_one]
  | (e, k) :: r, a => by
    show prF p q (a * rz p q e k % p) r % p = a * prF p q (1 * rz p q e k % p) r % p
    have h1 := prF_acc (p := p) (q := q) r (a * rz p q e k % p)
    have h2 := prF_acc (p := p) (q := q) r (1 * rz p q e k % p)
    rw [h1, mul_emod_l, ← mul_emod_r a (prF p q (1 * rz p q e k % p) r) p, h2, mul_emod_l, mul_emod_r, Int.one_mul, Int.mul_assoc]
theorem prZ_bd {p q : Int} (h : 1 < p) (l : List (Int × Int)) : 0 ≤ prZ p q l ∧ prZ p q l < p := prF_bd h l 1 (by omega) h
theorem prZ_mod {p q : Int} (h : 1 < p) (l : List (Int × Int)) : prZ p q l % p = prZ p q l := Int.emod_eq_of_lt (prZ_bd h l).1 (prZ_bd h l).2
theorem prZ_cons {p q : Int} (h : 1 < p) (e k : Int) (r : List (Int × Int)) : prZ p q ((e, k) :: r) = rz p q e k * prZ p q r % p := by
  rw [← prZ_mod h]
  show prF p q (1 * rz p q e k % p) r % p = _
  rw [prF_acc, mul_emod_l, Int.one_mul]
theorem rz_mul {p q e : Int} (q0 : 0 < q) (hp : 1 < p) (h : e ^ q.toNat % p = 1) (k j : Int) : rz p q (rz p q e k) j = rz p q e (k * j) := by
  unfold rz
  rw [pow_emod, ← Int.pow_mul]
  have b1 := emod_bd (a := k) q0
  have b2 := emod_bd (a := j) q0
  have b3 := emod_bd (a := k * j) q0
  refine pow_mod_q q0 hp h ?_
  rw [Int.natCast_mul, Int.toNat_of_nonneg b1.1, Int.toNat_of_nonneg b2.1, Int.toNat_of_nonneg b3.1, Int.emod_emod, ← Int.mul_emod]
theorem rz_prod (p q a b c : Int) : rz p q (a * b % p) c = rz p q a c * rz p q b c % p := by
  unfold rz
  rw [pow_emod, Int.mul_pow, Int.mul_emod]
theorem rz_one {p q e : Int} (q1 : 1 < q) (h0 : 0 ≤ e) (h1 : e < p) : rz p q e 1 = e := by
  unfold rz
  rw [Int.emod_eq_of_lt (by omega) q1]
  show e ^ 1 % p = e
  rw [Int.pow_succ, Int.pow_zero, Int.one_mul, Int.emod_eq_of_lt h0 h1]
theorem rz_zero {p q e : Int} (hp : 1 < p) : rz p q e 0 = 1 := by
  unfold rz
  rw [Int.zero_emod]
  show e ^ 0 % p = 1
  rw [Int.pow_zero, one_mod hp]
theorem rz_base {p q k : Int} (hp : 1 < p) : rz p q 1 k = 1 := by
  unfold rz
  rw [Int.one_pow, one_mod hp]
theorem prZ_modk {p q : Int} {α : Type} (hp : 1 < p) (b x : α → Int) : ∀ fs : List α, prZ p q (fs.map fun f => (b f, x f % q)) = prZ p q (fs.map fun f => (b f, x f))
  | [] => rfl
  | f :: fs => by rw [List.map_cons, List.map_cons, prZ_cons hp, prZ_cons hp, rz_mod, prZ_modk hp b x fs]
theorem prZ_lin {p q : Int} {α : Type} (q0 : 0 < q) (hp : 1 < p) (b x y : α → Int) (c : Int) : ∀ fs : List α, (∀ f ∈ fs, b f ^ q.toNat % p = 1) → prZ p q (fs.map fun f => (b f, x f + c * y f)) = prZ p q (fs.map fun f => (b f, x f)) * rz p q (prZ p q (fs.map fun f => (b f, y f))) c % p
  | [], _ => by
    show (1 : Int) = 1 * rz p q 1 c % p
    rw [rz_base hp, Int.one_mul, one_mod hp]
  | f :: fs, h => by
    have hb := h f List.mem_cons_self
    rw [List.map_cons, List.map_cons, List.map_cons, prZ_cons hp, prZ_cons hp, prZ_cons hp, prZ_lin q0 hp b x y c fs fun g hg => h g (List.mem_cons_of_mem _ hg)]
    rw [rz_prod, ← rz_add q0 hp hb, Int.mul_comm c, ← rz_mul q0 hp hb, mul_emod_l, mul_emod_r, mul_emod_l, mul_emod_r]
    congr 1
    ac_rfl
theorem rz_neg {p q e : Int} (q0 : 0 < q) (hp : 1 < p) (h : e ^ q.toNat % p = 1) (c : Int) : rz p q e c * rz p q e (-c) % p = 1 := by
  rw [rz_add q0 hp h, Int.add_right_neg, rz_zero hp]
theorem look_zip (f : Int → Int → Int) : ∀ {us : List Str} {xs ys : List Int} {u : Str}, u ∈ us → us.length ≤ xs.length → us.length ≤ ys.length → look us (List.zipWith f xs ys) u = f (look us xs u) (look us ys u)
  | [], _, _, _, h, _, _ => by cases h
  | _ :: _, [], _, _, _, h, _ => by simp at h
  | _ :: _, _ :: _, [], _, _, _, h => by simp at h
  | v :: us, x :: xs, y :: ys, u, h, h1, h2 => by
    by_cases e : v = u
    · simp [look, e]
    · have ih := look_zip f ((List.mem_cons.mp h).resolve_left fun z => e z.symm) (xs := xs) (ys := ys) (by simpa using h1) (by simpa using h2)
      simp only [List.zipWith_cons_cons, look, e, if_false]
      exact ih
/-- the replies to a challenge -/
def dueR (q c : Int) (ts vs : List Int) : List Int := List.zipWith (fun t v => (t + c * v) % q) ts vs
theorem side_due {p q : Int} (q0 : 0 < q) (hp : 1 < p) {us : List Str} {e : Eqn} {ts vs : List Int} {c : Int} (hf : ∀ f ∈ e.2, f.2 ∈ us ∧ f.1 ^ q.toNat % p = 1) (l1 : us.length ≤ ts.length) (l2 : us.length ≤ vs.length) :
    side p q us (dueR q c ts vs) e = side p q us ts e * rz p q (side p q us vs e) c % p := by
  unfold side dueR
  have e1 : (e.2.map fun f => (f.1, look us (List.zipWith (fun t v => (t + c * v) % q) ts vs) f.2)) = e.2.map fun f => (f.1, (look us ts f.2 + c * look us vs f.2) % q) :=
    List.map_congr_left fun f h => by rw [look_zip _ (hf f h).1 l1 l2]
  rw [e1, prZ_modk hp (fun f : Fac => f.1), prZ_lin q0 hp (fun f : Fac => f.1) _ _ c e.2 fun f h => (hf f h).2]
theorem side_root {p q : Int} (hp : 1 < p) {us : List Str} {e : Eqn} {vs : List Int} (hf : ∀ f ∈ e.2, f.1 ^ q.toNat % p = 1) : side p q us vs e ^ q.toNat % p = 1 :=
  prF_root hp _ 1 (by rw [Int.one_pow, one_mod hp]) fun x hx => by
    obtain ⟨f, h, rfl⟩ := List.mem_map.mp hx
    exact hf f h
/-- what replies fit to, one equation -/
theorem fit1 {p q S E c : Int} (q1 : 1 < q) (hp : 1 < p) (s0 : 0 ≤ S) (s1 : S < p) : prZ p q [(S, 1), (E, -c)] = S * rz p q E (-c) % p := by
  rw [prZ_cons hp, prZ_cons hp, rz_one q1 s0 s1]
  show S * (rz p q E (-c) * 1 % p) % p = _
  rw [Int.mul_one, mul_emod_r]
theorem firsts_due {p q : Int} (q1 : 1 < q) (hp : 1 < p) {us : List Str} {eqs : List Eqn} {ts vs : List Int} {c : Int} (hf : ∀ e ∈ eqs, ∀ f ∈ e.2, f.2 ∈ us ∧ f.1 ^ q.toNat % p = 1) (l1 : us.length ≤ ts.length) (l2 : us.length ≤ vs.length) (he : ∀ e ∈ eqs, e.1 = side p q us vs e) :
    firsts p q us eqs c (dueR q c ts vs) = sides p q us eqs ts := by
  unfold firsts sides
  refine List.map_congr_left fun e h => ?_
  have bd := side_bd (q := q) hp us (dueR q c ts vs) e
  have bt := side_bd (q := q) hp us ts e
  rw [fit1 q1 hp bd.1 bd.2, side_due (by omega) hp (hf e h) l1 l2, he e h, mul_emod_l, Int.mul_assoc, ← mul_emod_r, rz_neg (by omega) hp (side_root hp fun f hf' => (hf e h f hf').2), Int.mul_one]
  exact Int.emod_eq_of_lt bt.1 bt.2
theorem GG.okk {p q v l : Int} {bs : List Int} (g : GG p q bs (2 + v) l) (h0 : 0 ≤ v := by omega) (h1 : v ≤ 10 := by omega) : GOk p q bs := by
  have row := row_of g.tb
  have ln := g.ln
  refine ⟨row.p3, row.pm, row.pp, row.qp, row.dv, by omega, by omega, fun b hb => ?_, g.nd⟩
  obtain ⟨e, e1, e2, rfl⟩ := g.po b hb
  exact root_el row e1 e2
theorem GG.gb {p q v l : Int} {bs : List Int} (g : GG p q bs (2 + v) l) (h0 : 0 ≤ v := by omega) (h1 : v ≤ 10 := by omega) : GB p q bs := by
  have row := row_of g.tb
  have ln := g.ln
  have ok := g.okk h0 h1
  exact ⟨row.p3, row.pm, row.q3, row.qm, by omega, by omega, fun b hb => by
    obtain ⟨_, h1, h2, h3⟩ := ok.el b hb
    exact ⟨by omega, h2, h3⟩⟩
theorem same_ok {a d : Dat} {A B : Prop} {n : Nat} (hx : plD a = true) (hy : okS n d) (e : a = d) (h : B) : aspSame (n + 1) [a, d] fun x => bQ x fun b => two (!b) A B := ⟨a, d, rfl, hx, hy, fun b hb => by
  have := hb.mpr e
  subst this
  exact h⟩
theorem same_end {a d : Dat} {P : Dat → Prop} {n : Nat} (hx : plD a = true) (hy : okS n d) (e : a = d) (h : P (.bl true)) : aspSame (n + 1) [a, d] P := ⟨a, d, rfl, hx, hy, fun b hb => by
  have := hb.mpr e
  subst this
  exact h⟩
theorem okS_tup {n : Nat} {xs : List Dat} (l : xs.length ≤ 1000000) (h : ∀ x ∈ xs, okS n x) : okS (n + 1) (.tup xs) := ⟨l, h⟩
theorem okS_lst {n : Nat} {xs : List Dat} (l : xs.length ≤ 1000000) (h : ∀ x ∈ xs, okS n x) : okS (n + 1) (.lst xs) := ⟨l, h⟩
theorem okS_int (n : Nat) (i : Int) : okS n (.int i) := by cases n <;> trivial
theorem okS_str (n : Nat) (i : Str) : okS n (.str i) := by cases n <;> trivial
theorem okS_bl (n : Nat) (b : Bool) : okS n (.bl b) := by cases n <;> trivial
theorem okS_map {α : Type} {f : α → Dat} {n : Nat} {xs : List α} (h : ∀ x ∈ xs, okS n (f x)) : ∀ d ∈ xs.map f, okS n d := fun d hd => by
  obtain ⟨x, hx, rfl⟩ := List.mem_map.mp hd
  exact h x hx
theorem plAll_map {α : Type} {f : α → Dat} {xs : List α} (h : ∀ x ∈ xs, plD (f x) = true) : plAll (xs.map f) = true := plAll_of fun d hd => by
  obtain ⟨x, hx, rfl⟩ := List.mem_map.mp hd
  exact h x hx
theorem getD_at {xs : List Int} {i : Nat} (h : i < xs.length) : xs[i]? = some (xs.getD i 0) := by
  rw [List.getD_eq_getElem?_getD, List.getElem?_eq_getElem h]
  rfl
theorem kstar {X : Cx} {K : PySem.W.Frag} (hK : X.K = K) {e : Expr} {es : List Expr} {p : Pos} {te : TE} {t : TA} (he : PE X e te) (hr : PA X es t) (hs : starEach (.Starred e p :: es) X.env = (true, eval e X.env) :: starEach es X.env := by rfl) : PA X (.Starred e p :: es) (StX.tStar K te t) := by
  subst hK
  exact StX.pa_star he hr hs
/-- arguments, as many as there are -/
structure AArs (W : Wd) (H0 : Hp) (ta : TA) (aa : AFr) : Prop where
  run : ∀ (σ : L2.St) (env : List Sl) (F : Addr → Prop) (H : Hp) (Q : List V → Hp → Prop) (P : List Dat → Prop), Okk W F H → Mt W H0 F H σ env → aa env P →
    (∀ ds F' H' vs, P ds → Ext W F H F' H' → RvAll W F' H' vs ds → Q vs H') → ta σ H Q
def aStar (ea : AEx) (er : AFr) : AFr := fun env P => ea env fun x => sQ x fun xs => er env fun ys => P (xs ++ ys)
def aSz (aa : AFr) : AFr := fun env P => aa env fun ds => ds.length ≤ 100000 ∧ P ds
section
variable {W : Wd} {H0 : Hp} {te ta tb : TE} {ae ea eb : AEx}
theorem a_nilS : AArs W H0 tNil aNil := ⟨fun _ _ F H _ _ ok _ h k => k [] F H [] h (.refl ok) .nil⟩
theorem a_consS {tr : TA} {er : AFr} (ha : AExp W H0 ta ea) (hr : AArs W H0 tr er) : AArs W H0 (tCons ta tr) (aCons ea er) :=
  ⟨fun σ env F H Q P ok m q k => ha.run σ env F H _ _ ok m q fun d F1 H1 v p1 x1 r1 => hr.run σ env F1 H1 _ _ x1.ok (m.ext ok x1) p1 fun ds F2 H2 vs p2 x2 r2 =>
    k (d :: ds) F2 H2 (v :: vs) p2 (x1.trans ok x2) (.cons (r1.sub (x2.sub x1.ok)) r2)⟩
theorem a_starS {tr : TA} {er : AFr} (ha : AEg Pk W H0 ta ea) (hr : AArs W H0 tr er) : AArs W H0 (StX.tStar W.K ta tr) (aStar ea er) :=
  ⟨fun σ env F H Q P ok m q k => ha.run σ env F H _ _ ok m q fun d F1 H1 v p1 x1 r1 => by
    obtain ⟨a, vs, xs, rfl, h, rr, p, _⟩ := r1.seq x1.ok p1
    refine ⟨a, vs, rfl, h.symm, hr.run σ env F1 H1 _ _ x1.ok (m.ext ok x1) p fun ds F2 H2 ws p2 x2 r2 => ?_⟩
    exact k (xs ++ ds) F2 H2 (vs ++ ws) p2 (x1.trans ok x2) ((rr.sub (x2.sub x1.ok)).append r2)⟩
theorem a_lstS {tr : TA} {aa : AFr} (h : AArs W H0 tr aa) : AFrs W H0 (tLst tr) (aSz aa) :=
  ⟨fun σ env F H Q P ok m q k => h.run σ env F H _ _ ok m q fun ds F1 H1 vs p1 x1 r1 => ⟨Nat.le_of_lt (len_size (by rw [r1.length]; exact p1.1)), fun a n => by
    have x2 : Ext W F1 H1 _ _ := Ext.lay (o := .lst vs) x1.ok n
    exact k ds _ _ a vs p1.2 (x1.trans ok x2) (x1.there ok n) (fun f => x1.ok.tr a f n) upd_same (r1.sub (x2.sub x1.ok))⟩⟩
end
structure Stm where
  us : List Str
  eqs : List Eqn
/-- claims, so many levels deep at most; witnesses, tapes, first moves, replies of them -/
def Cl : Nat → Type
  | 0 => Empty
  | n + 1 => Stm × List (List (Cl n))
def Mv : Nat → Type
  | 0 => Empty
  | n + 1 => List Int × List (List (Mv n))
def Ry : Nat → Type
  | 0 => Empty
  | n + 1 => List Int × List (List (Int × Ry n))
def tupM {α : Type} (f : α → Dat) (xs : List α) : Dat := .tup (xs.map f)
def clO : (n : Nat) → Cl n → Dat
  | 0, c => Empty.elim c
  | n + 1, (s, chs) => .obj 2 [stO s.us s.eqs, tupM (tupM (clO n)) chs]
def mvD : (n : Nat) → Mv n → Dat
  | 0, c => Empty.elim c
  | n + 1, (ms, ps) => .tup [tupM .int ms, tupM (tupM (mvD n)) ps]
def rpD {n : Nat} (f : Ry n → Dat) (x : Int × Ry n) : Dat := .tup [.int x.1, f x.2]
def ryD : (n : Nat) → Ry n → Dat
  | 0, c => Empty.elim c
  | n + 1, (rs, ps) => .tup [tupM .int rs, tupM (tupM (rpD (ryD n))) ps]
section
variable {n : Nat}
theorem clO_s (s : Stm) (chs : List (List (Cl n))) : clO (n + 1) (s, chs) = .obj 2 [stO s.us s.eqs, tupM (tupM (clO n)) chs] := rfl
theorem mvD_s (ms : List Int) (ps : List (List (Mv n))) : mvD (n + 1) (ms, ps) = .tup [tupM .int ms, tupM (tupM (mvD n)) ps] := rfl
theorem ryD_s (rs : List Int) (ps : List (List (Int × Ry n))) : ryD (n + 1) (rs, ps) = .tup [tupM .int rs, tupM (tupM (rpD (ryD n))) ps] := rfl
end
/-- claims that the program takes -/
def ClOk : (n : Nat) → Cl n → Prop
  | 0, _ => False
  | n + 1, (s, chs) => StOk s.us s.eqs ∧ chs.length ≤ 100 ∧ ∀ bs ∈ chs, 0 < bs.length ∧ bs.length ≤ 100 ∧ ∀ b ∈ bs, ClOk n b
/-- what fits -/
def FitsC (p q : Int) : (n : Nat) → Cl n → Mv n → Int → Ry n → Prop
  | 0, _, _, _, _ => False
  | n + 1, (s, chs), (ms, mvs), c, (rs, ans) => rs.length = s.us.length ∧ mvs.length = chs.length ∧ ans.length = chs.length ∧ (0 ≤ c ∧ c < q) ∧ (∀ r ∈ rs, 0 ≤ r ∧ r < q) ∧ firsts p q s.us s.eqs c rs = ms ∧
    ∀ x ∈ chs.zip (mvs.zip ans), x.2.1.length = x.1.length ∧ x.2.2.length = x.1.length ∧ (x.2.2.map (·.1)).sum % q = c ∧ ∀ y ∈ x.1.zip (x.2.1.zip x.2.2), FitsC p q n y.1 y.2.1 y.2.2.1 y.2.2.2
/-- lists that are not too long -/
def MvB : (n : Nat) → Mv n → Prop
  | 0, _ => False
  | n + 1, (ms, mvs) => ms.length ≤ 1000 ∧ mvs.length ≤ 1000 ∧ ∀ l ∈ mvs, l.length ≤ 1000 ∧ ∀ m ∈ l, MvB n m
def RyB : (n : Nat) → Ry n → Prop
  | 0, _ => False
  | n + 1, (rs, ans) => rs.length ≤ 1000 ∧ ans.length ≤ 1000 ∧ ∀ l ∈ ans, l.length ≤ 1000 ∧ ∀ x ∈ l, RyB n x.2
theorem forA_suf {α : Type} {f : α → Dat} {g : ATg} {b : ASt} {D : AEnds} (W : List α → List Sl → Prop) (hs : ∀ x xs env, W (x :: xs) env → ∀ N : List Sl → Prop, (∀ env', W xs env' → N env') → g (f x) env fun env2 => b { D with nx := N, ct := N, bk := D.nx } env2)
    (hd : ∀ env, W [] env → D.nx env) : ∀ xs env, W xs env → forA g b D (xs.map f) env
  | [], env, h => hd env h
  | x :: xs, env, h => hs x xs env h (forA g b D (xs.map f)) fun env' w => forA_suf W hs hd xs env' w
theorem enumD_map {α : Type} (f : α → Dat) : ∀ (xs : List α) (n : Nat), enumD n (xs.map f) = (xs.zipIdx n).map fun x => .tup [.int (x.2 : Nat), f x.1]
  | [], _ => rfl
  | x :: xs, n => congrArg (_ :: ·) (enumD_map f xs (n + 1))
theorem zip3D_map {α β γ : Type} (f : α → Dat) (g : β → Dat) (h : γ → Dat) : ∀ (xs : List α) (ys : List β) (zs : List γ), zip3D (xs.map f) (ys.map g) (zs.map h) = (xs.zip (ys.zip zs)).map fun x => .tup [f x.1, g x.2.1, h x.2.2]
  | [], _, _ => rfl
  | _ :: _, [], _ => rfl
  | _ :: _, _ :: _, [] => rfl
  | x :: xs, y :: ys, z :: zs => congrArg (_ :: ·) (zip3D_map f g h xs ys zs)
theorem fn_vac {P : Program} {w : World} {K : PySem.W.Frag} {mg : Str → Option Value} {base : Heap} {CX : CXT} {k : Nat} {f : Addr} {fd : FuncData} {ps : List Str} {ca : Nat → Addr} {asp : ASp} (h : ∀ ds P, ¬ asp ds P) : FnOk P w K mg base CX k f fd ps (toSp K ca asp) :=
  ⟨fun _ _ _ _ ⟨_, _, _, _, _, _, a, _⟩ => (h _ _ a).elim, fun _ _ _ _ _ _ _ _ _ _ _ _ _ ⟨_, _, _, _, _, _, a, _⟩ => (h _ _ a).elim⟩
structure CT (K : PySem.W.Frag) (C : Addr) : Prop where
  cl : Cls K C
  n_statement : NoAttr K C "statement"
  n_choices : NoAttr K C "choices"
section
variable {P : Program} {w : World} {K : PySem.W.Frag} {mg : Str → Option Value} {base : Heap} {ca : Nat → Addr}
theorem zip_mem3 {α β γ : Type} : ∀ {xs : List α} {ys : List β} {zs : List γ} {x : α × β × γ}, x ∈ xs.zip (ys.zip zs) → (x.1, x.2.1) ∈ xs.zip ys ∧ (x.1, x.2.2) ∈ xs.zip zs
  | [], _, _, _, h => by cases h
  | _ :: _, [], _, _, h => by cases h
  | _ :: _, _ :: _, [], _, h => by cases h
  | x :: xs, y :: ys, z :: zs, t, h => by
    rcases List.mem_cons.mp h with rfl | h
    · exact ⟨List.mem_cons_self, List.mem_cons_self⟩
    · have := zip_mem3 h
      exact ⟨List.mem_cons_of_mem _ this.1, List.mem_cons_of_mem _ this.2⟩
end
theorem paired_all {α : Type} {R : α → Prop} {P : Dat → Prop} {xs : List α} {ys : List Dat} (h : Paired (fun x y => ∃ b : Bool, y = Dat.bl b ∧ (b = true ↔ R x)) xs ys) (hp : ∀ b : Bool, (b = true ↔ ∀ x ∈ xs, R x) → P (.bl b)) : kAll (.lst ys) P := by
  have : ∃ bs : List Bool, ys = bs.map Dat.bl ∧ (bs.all id = true ↔ ∀ x ∈ xs, R x) := by
    clear hp
    induction h with
    | nil => exact ⟨[], rfl, by simp⟩
    | cons a _ ih =>
      obtain ⟨b, rfl, hb⟩ := a
      obtain ⟨bs, rfl, hbs⟩ := ih
      refine ⟨b :: bs, rfl, ?_⟩
      rw [List.all_cons, Bool.and_eq_true, hbs]
      show (b = true ∧ _) ↔ _
      rw [hb, List.forall_mem_cons]
  obtain ⟨bs, rfl, hb⟩ := this
  exact ⟨bs, rfl, hp _ hb⟩
abbrev s__has_form : Stmt := top 13
theorem sc__has_form : FnScope ["claim", "first", "replied", "_", "moves", "replies", "answers"] ["claim", "first", "replied"] (defScope s__has_form) := ⟨rfl, rfl, rfl, by decide +kernel, rfl, by decide +kernel, by decide +kernel⟩
abbrev s__choice_fits : Stmt := top 14
theorem sc__choice_fits : FnScope ["group", "branches", "moves", "challenge", "pairs", "branch", "move", "share", "replied", "pair", "_"] ["group", "branches", "moves", "challenge", "pairs"] (defScope s__choice_fits) := ⟨rfl, rfl, rfl, by decide +kernel, rfl, by decide +kernel, by decide +kernel⟩
abbrev s_fits : Stmt := top 12
theorem sc_fits : FnScope ["group", "claim", "first", "challenge", "replied", "numbers", "moves", "replies", "answers", "branches", "move", "pairs", "number"] ["group", "claim", "first", "challenge", "replied"] (defScope s_fits) := ⟨rfl, rfl, rfl, by decide +kernel, rfl, by decide +kernel, by decide +kernel⟩
section
variable {P : Program} {w : World} {K : PySem.W.Frag} {mg : Str → Option Value} {base : Heap} {ca : Nat → Addr}
def aspForm : ASp := fun ds P => ∃ (n : Nat) (s : Stm) (chs : List (List (Cl n))) (ms : List Int) (mvs : List (List (Mv n))) (rs : List Int) (ans : List (List (Int × Ry n))), ds = [clO (n + 1) (s, chs), mvD (n + 1) (ms, mvs), ryD (n + 1) (rs, ans)] ∧
  ∀ b : Bool, (b = true ↔ rs.length = s.us.length ∧ mvs.length = chs.length ∧ ans.length = chs.length) → P (.bl b)
theorem ok_has_form {f : Addr} {fd : FuncData} (F : Fun K "_has_form" "_has_form" s__has_form f fd) (T1 : ST K (ca 1)) (T2 : CT K (ca 2)) (B : Blt mg) : FnOk P w K mg base CX0 1 f fd ["claim", "first", "replied"] (toSp K ca aspForm) := by
  refine F.ok sc__has_form (fun vs H Q E h => sp_len (n := 3) (fun ds P a => by obtain ⟨_, _, _, _, _, _, _, rfl, _⟩ := a; rfl) h) (fun cdv A outer s H vs Q E hr h => ⟨_, (pss_cons (ps_if (PW.pt (pw_or (pt_cmpR op_ne (pe_callB (klen (K := K) rfl) (by rfl) B.len bt_len (pa_cons (pv 1) pa_nil)) pe_int (nomark _)) (pw_or1 (pt_cmpR op_ne (pe_callB (klen (K := K) rfl) (by rfl) B.len bt_len (pa_cons (pv 2) pa_nil)) pe_int (nomark _))))) (pss_one (ps_ret pe_bl)) pss_nil)
      (pss_cons (ps_asg (pv 1) (kgtup (K := K) (n := 2) rfl rfl (pgs_cons (pg_name (i := 3) sc__has_form.nd rfl (.inl rfl)) (pgs_cons (pg_name (i := 4) sc__has_form.nd rfl (.inl rfl)) pgs_nil))))
      (pss_cons (ps_asg (pv 2) (kgtup (K := K) (n := 2) rfl rfl (pgs_cons (pg_name (i := 5) sc__has_form.nd rfl (.inl rfl)) (pgs_cons (pg_name (i := 6) sc__has_form.nd rfl (.inl rfl)) pgs_nil))))
      (pss_one (ps_ret (pe_and (pe_cmpR op_eq (pe_callB (klen (K := K) rfl) (by rfl) B.len bt_len (pa_cons (pv 5) pa_nil)) (pe_callB (klen (K := K) rfl) (by rfl) B.len bt_len (pa_cons (kfld (K := K) rfl (kfld (K := K) rfl (pv 0))) pa_nil)) (nomark _)) (pe_and (pe_cmpR op_eq (pe_callB (klen (K := K) rfl) (by rfl) B.len bt_len (pa_cons (pv 4) pa_nil)) (pe_callB (klen (K := K) rfl) (by rfl) B.len bt_len (pa_cons (kfld (K := K) rfl (pv 0)) pa_nil)) (nomark _)) (pe_one (pe_cmpR op_eq (pe_callB (klen (K := K) rfl) (by rfl) B.len bt_len (pa_cons (pv 6) pa_nil)) (pe_callB (klen (K := K) rfl) (by rfl) B.len bt_len (pa_cons (kfld (K := K) rfl (pv 0)) pa_nil)) (nomark _)))))))))),
    fn_run h (fun po => (s_seq (s_if (fun _ => (a_or (a_test (a_op pst_rv rok_ne (a_b1 u_len (a_pk a_var)) a_int)) (a_test (a_op pst_rv rok_ne (a_b1 u_len (a_pk a_var)) a_int)))) (s_ret fun _ => a_bl) s_next)
      (s_seq (s_asg (vs := [3, 4]) (fun _ => a_var) (fun _ => (g_tup (g_cons (g_name (by decide)) (g_cons (g_name (by decide)) g_nil tot_name) tot_name))))
      (s_seq (s_asg (vs := [5, 6]) (fun _ => a_var) (fun _ => (g_tup (g_cons (g_name (by decide)) (g_cons (g_name (by decide)) g_nil tot_name) tot_name))))
      (s_ret fun _ => (a_andV (a_op pst_rv rok_eq (a_b1 u_len (a_pk a_var)) (a_b1 u_len (a_pk (a_fld T1.cl T1.n_unknowns (c := 1) (i := 0) rfl (a_fld T2.cl T2.n_statement (c := 2) (i := 0) rfl a_var))))) (a_andV (a_op pst_rv rok_eq (a_b1 u_len (a_pk a_var)) (a_b1 u_len (a_pk (a_fld T2.cl T2.n_choices (c := 2) (i := 1) rfl a_var)))) (a_op pst_rv rok_eq (a_b1 u_len (a_pk a_var)) (a_b1 u_len (a_pk (a_fld T2.cl T2.n_choices (c := 2) (i := 1) rfl a_var))))))))))) (fun ds P a => by obtain ⟨_, _, _, _, _, _, _, rfl, _⟩ := a; exact Nat.le_of_ble_eq_true rfl) ?_⟩)
  rintro ds P ⟨n, s, chs, ms, mvs, rs, ans, rfl, hp⟩
  rw [clO_s, mvD_s, ryD_s]
  generalize hF : [tupM Dat.int ms, tupM (tupM (mvD n)) mvs] = F
  generalize hG : [tupM Dat.int rs, tupM (tupM (rpD (ryD n))) ans] = G
  have lF : F.length = 2 := by rw [← hF]; rfl
  have lG : G.length = 2 := by rw [← hG]; rfl
  -- by steps: the kernel takes too long over the whole
  rw [sSeq, sIf, aOr]
  simp only [aTest_eq, a2, a1, aC, aVar, List.map_cons, List.cons_append, dAt_0, dAt_s, dQ_d, kLen, sQ_tup, kEq_i, bQ_bl, if_true]
  refine twoN (fun h => absurd (by omega) h) (fun _ => ?_)
  refine twoN (fun h => absurd (by omega) h) (fun _ => ?_)
  rw [sNext]
  dsimp only
  rw [sSeq, sAsg]
  subst hF hG
  unfold stO tupM
  walk_at "dd"
  rw [List.length_map, List.length_map, List.length_map, List.length_map, List.length_map]
  refine twoD (fun h1 => twoD (fun h2 => hp _ ?_) (fun h2 => hp _ ?_)) (fun h1 => hp _ ?_)
  · rw [decide_eq_true_iff]
    exact ⟨fun h => ⟨by omega, by omega, by omega⟩, fun h => by omega⟩
  · exact ⟨fun z => (by cases z), fun z => absurd (by rw [z.2.1]) h2⟩
  · exact ⟨fun z => (by cases z), fun z => absurd (by rw [z.1]) h1⟩
def aspChFits (n : Nat) : ASp := fun ds P => ∃ (p q c : Int) (gs : List Int) (bs : List (Cl n)) (mvs : List (Mv n)) (prs : List (Int × Ry n)), ds = [grpD p q gs, tupM (clO n) bs, tupM (mvD n) mvs, .int c, tupM (rpD (ryD n)) prs] ∧ (0 < q ∧ 1 < p ∧ p < 2147483648) ∧ (bs.length ≤ 1000 ∧ ∀ b ∈ bs, ClOk n b) ∧ (mvs.length ≤ 1000 ∧ ∀ m ∈ mvs, MvB n m) ∧ (prs.length ≤ 1000 ∧ ∀ x ∈ prs, RyB n x.2) ∧
  ∀ b : Bool, (b = true ↔ mvs.length = bs.length ∧ prs.length = bs.length ∧ (prs.map (·.1)).sum % q = c ∧ ∀ y ∈ bs.zip (mvs.zip prs), FitsC p q n y.1 y.2.1 y.2.2.1 y.2.2.2) → P (.bl b)
def aspFits (n : Nat) : ASp := fun ds P => ∃ (p q c : Int) (gs : List Int) (cl : Cl n) (m : Mv n) (r : Ry n), ds = [grpD p q gs, clO n cl, mvD n m, .int c, ryD n r] ∧ (0 < q ∧ 1 < p ∧ p < 2147483648) ∧ ClOk n cl ∧ MvB n m ∧ RyB n r ∧ ∀ b : Bool, (b = true ↔ FitsC p q n cl m c r) → P (.bl b)
theorem all_two {α : Type} {xs : List α} {P : Dat → Prop} (h : P (.bl true)) : kAll (.lst (xs.map fun _ => Dat.bl true)) P := ⟨xs.map fun _ => true, by rw [List.map_map]; rfl, by
  rw [show (xs.map fun _ => true).all id = true by
    rw [List.all_eq_true]
    intro b hb
    obtain ⟨_, _, rfl⟩ := List.mem_map.mp hb
    rfl]
  exact h⟩
theorem ok_choice_fits (n : Nat) {f : Addr} {fd : FuncData} (F : Fun K "_choice_fits" "_choice_fits" s__choice_fits f fd) (T0 : GT K (ca 0)) (B : Blt mg) (C_fits : C8.Cal P w K mg base (2 * n + 6) "fits" (toSp K ca (aspFits n)) []) :
    FnOk P w K mg base CX0 (2 * n + 7) f fd ["group", "branches", "moves", "challenge", "pairs"] (toSp K ca (aspChFits n)) := by
  refine F.ok sc__choice_fits (fun vs H Q E h => sp_len (n := 5) (fun ds P a => by obtain ⟨_, _, _, _, _, _, _, rfl, _⟩ := a; rfl) h) (fun cdv A outer s H vs Q E hr h => ⟨_, (pss_cons (ps_if (PW.pt (pw_or (pt_cmpR op_ne (pe_callB (klen (K := K) rfl) (by rfl) B.len bt_len (pa_cons (pv 2) pa_nil)) (pe_callB (klen (K := K) rfl) (by rfl) B.len bt_len (pa_cons (pv 1) pa_nil)) (nomark _)) (pw_or1 (pt_cmpR op_ne (pe_callB (klen (K := K) rfl) (by rfl) B.len bt_len (pa_cons (pv 4) pa_nil)) (pe_callB (klen (K := K) rfl) (by rfl) B.len bt_len (pa_cons (pv 1) pa_nil)) (nomark _))))) (pss_one (ps_ret pe_bl)) pss_nil)
      (pss_cons (ps_if (pt_not (pt_val (pe_callB (kall (K := K) rfl rfl) (by rfl) B.all bt_all (pa_cons (pe_lc (own := [("pair", 9)]) (g := gName 9) (tt := tYes) rfl sc__choice_fits.nd (kpit (K := K) rfl (pv 4)) (blkOk_by (N := ["group", "branches", "moves", "challenge", "pairs", "branch", "move", "share", "replied", "pair", "_"]) (sc := defScope s__choice_fits) (by decide +kernel))
        (fun _ _ _ _ _ => (pg_name (i := 9) sc__choice_fits.nd rfl (.inl rfl))) (fun _ _ _ _ _ => pts_nil)
        (fun _ _ _ _ _ => (pe_cmpR op_eq (pe_callB (klen (K := K) rfl) (by rfl) B.len bt_len (pa_cons (pv 9) pa_nil)) pe_int (nomark _)))) pa_nil)))) (pss_one (ps_ret pe_bl)) pss_nil)
      (pss_cons (ps_if (pt_cmpR op_ne (pe_op op_mod (pe_callB (ksum (K := K) rfl rfl) (by rfl) B.sum bt_sum (pa_cons (pe_lc (own := [("share", 7), ("_", 10)]) (tt := tYes) rfl sc__choice_fits.nd (kpit (K := K) rfl (pv 4)) (blkOk_by (N := ["group", "branches", "moves", "challenge", "pairs", "branch", "move", "share", "replied", "pair", "_"]) (sc := defScope s__choice_fits) (by decide +kernel))
        (fun _ _ _ _ _ => (kgtup (K := K) (n := 2) rfl rfl (pgs_cons (pg_name (i := 7) sc__choice_fits.nd rfl (.inl rfl)) (pgs_cons (pg_name (i := 10) sc__choice_fits.nd rfl (.inl rfl)) pgs_nil)))) (fun _ _ _ _ _ => pts_nil)
        (fun _ _ _ _ _ => (pv 7))) pa_nil)) (kfld (K := K) rfl (pv 0))) (pv 3) (nomark _)) (pss_one (ps_ret pe_bl)) pss_nil)
      (pss_one (ps_ret (pe_callB (kall (K := K) rfl rfl) (by rfl) B.all bt_all (pa_cons (pe_lc (own := [("branch", 5), ("move", 6), ("share", 7), ("replied", 8)]) (tt := tYes) rfl sc__choice_fits.nd (pi_zipT true true true (K := K) rfl (by rfl) B.zip (pa_cons (pv 1) (pa_cons (pv 2) (pa_cons (pv 4) pa_nil)))) (blkOk_by (N := ["group", "branches", "moves", "challenge", "pairs", "branch", "move", "share", "replied", "pair", "_"]) (sc := defScope s__choice_fits) (by decide +kernel))
        (fun _ _ _ _ _ => (kgtup (K := K) (n := 3) rfl rfl (pgs_cons (pg_name (i := 5) sc__choice_fits.nd rfl (.inl rfl)) (pgs_cons (pg_name (i := 6) sc__choice_fits.nd rfl (.inl rfl)) (pgs_cons (kgtup (K := K) (n := 2) rfl rfl (pgs_cons (pg_name (i := 7) sc__choice_fits.nd rfl (.inl rfl)) (pgs_cons (pg_name (i := 8) sc__choice_fits.nd rfl (.inl rfl)) pgs_nil))) pgs_nil))))) (fun _ _ _ _ _ => pts_nil)
        (fun _ _ _ _ _ => (C8.pe_c C_fits hr (by omega) rfl (pa_cons (pv 0) (pa_cons (pv 5) (pa_cons (pv 6) (pa_cons (pv 7) (pa_cons (pv 8) pa_nil)))))))) pa_nil))))))),
    fn_run h (fun po => (s_seq (s_if (fun _ => (a_or (a_test (a_op pst_rv rok_ne (a_b1 u_len (a_pk a_var)) (a_b1 u_len (a_pk a_var)))) (a_test (a_op pst_rv rok_ne (a_b1 u_len (a_pk a_var)) (a_b1 u_len (a_pk a_var)))))) (s_ret fun _ => a_bl) s_next)
      (s_seq (s_if (fun _ => (a_not (a_tb (a_b1 u_all (a_pk (a_fz (a_lc (vs := [9]) (i_tup a_var) (g_name (by decide)) a_yes (a_op pst_rv rok_eq (a_b1 u_len (a_pk a_var)) a_int)))))))) (s_ret fun _ => a_bl) s_next)
      (s_seq (s_if (fun _ => (a_test (a_op pst_rv rok_ne (a_op pst_rv rok_I (a_b1 u_sum (a_pk (a_fz (a_lc (vs := [7, 10]) (i_tup a_var) (g_tup (g_cons (g_name (by decide)) (g_cons (g_name (by decide)) g_nil tot_name) tot_name)) a_yes a_var)))) (a_fld T0.cl T0.n_q (c := 0) (i := 1) rfl a_var)) a_var))) (s_ret fun _ => a_bl) s_next)
      (s_ret fun _ => (a_b1 u_all (a_pk (a_fz (a_lc (vs := [5, 6, 7, 8]) (i_zip3 (a_cons a_var (a_cons a_var (a_cons a_var a_nil)))) (g_tup (g_cons (g_name (by decide)) (g_cons (g_name (by decide)) (g_cons (g_tup (g_cons (g_name (by decide)) (g_cons (g_name (by decide)) g_nil tot_name) tot_name)) g_nil (tot_tup (tot_cons tot_name (tot_cons tot_name tot_nil)))) tot_name) tot_name)) a_yes (a_call (a_cons a_var (a_cons a_var (a_cons a_var (a_cons a_var (a_cons a_var a_nil))))))))))))))) (fun ds P a => by obtain ⟨_, _, _, _, _, _, _, rfl, _⟩ := a; exact Nat.le_of_ble_eq_true rfl) ?_⟩)
  rintro ds P ⟨p, q, c, gs, bs, mvs, prs, rfl, hq, ⟨lb, hb⟩, ⟨lm, hm⟩, ⟨lr, hr'⟩, hp⟩
  obtain ⟨q0, p0, p1⟩ := id hq
  unfold tupM
  rw [sSeq, sIf, aOr]
  simp only [aTest_eq, a2, a1, aC, aVar, List.map_cons, List.cons_append, dAt_0, dAt_s, dQ_d, kLen, sQ_tup, kEq_i, bQ_bl, if_true]
  rw [List.length_map, List.length_map, List.length_map]
  refine twoN (fun h => hp _ ⟨fun z => (by cases z), fun z => absurd (by rw [z.1]) h⟩) (fun h1 => ?_)
  refine twoN (fun h => hp _ ⟨fun z => (by cases z), fun z => absurd (by rw [z.2.1]) h⟩) (fun h2 => ?_)
  rw [sNext]
  dsimp only
  rw [sSeq]
  walk_at "dd"
  rw [List.length_map]
  refine ⟨by omega, ?_⟩
  refine lcA_mapL (g := fun _ => Dat.bl true) (fun x hx Q hQ => ?_) ?_
  · unfold rpD
    walk_at "dd"
    rw [decide_eq_true (show ((2 : Nat) : Int) = 2 from rfl)]
    exact hQ
  refine all_two ?_
  walk_at "dd"
  refine ⟨by omega, ?_⟩
  refine lcA_mapL (g := fun x => Dat.int x.1) (fun x hx Q hQ => ?_) ?_
  · unfold rpD
    walk_at "dd"
    exact hQ
  refine ⟨prs.map (·.1), by rw [List.map_map]; rfl, ?_⟩
  unfold grpD
  walk_at "dd"
  refine ⟨q0, ?_⟩
  refine twoN (fun h => hp _ ⟨fun z => (by cases z), fun z => absurd z.2.2.1 h⟩) (fun h3 => ?_)
  simp only [iZip3A]
  walk_at "dd"
  rw [zip3D_map]
  refine ⟨by rw [List.length_map, List.length_zip]; omega, ?_⟩
  refine lcA_relL (fun x y => ∃ b : Bool, y = Dat.bl b ∧ (b = true ↔ FitsC p q n x.1 x.2.1 x.2.2.1 x.2.2.2)) (fun x hx Q hQ => ?_) fun ys pr => ?_
  · unfold rpD
    walk_at "dd"
    have m3 := List.of_mem_zip (zip_mem3 hx).1
    have m4 := List.of_mem_zip (zip_mem3 hx).2
    exact ⟨p, q, x.2.2.1, gs, x.1, x.2.1, x.2.2.2, rfl, hq, hb _ m3.1, hm _ m3.2, hr' _ m4.2, fun b hb => hQ _ ⟨b, rfl, hb⟩⟩
  · refine paired_all pr fun b hb2 => hp b ?_
    rw [hb2]
    exact ⟨fun z => ⟨by omega, by omega, h3, z⟩, fun z => z.2.2.2⟩
theorem ok_fits (n : Nat) {f : Addr} {fd : FuncData} (F : Fun K "fits" "fits" s_fits f fd) (T0 : GT K (ca 0)) (T2 : CT K (ca 2)) (B : Blt mg) (C_simulated : C8.Cal P w K mg base 5 "simulated" (toSp K ca aspSim) []) (C__has_form : C8.Cal P w K mg base 1 "_has_form" (toSp K ca aspForm) [])
    (C__choice_fits : C8.Cal P w K mg base (2 * n + 7) "_choice_fits" (toSp K ca (aspChFits n)) []) : FnOk P w K mg base CX0 (2 * n + 8) f fd ["group", "claim", "first", "challenge", "replied"] (toSp K ca (aspFits (n + 1))) := by
  refine F.ok sc_fits (fun vs H Q E h => sp_len (n := 5) (fun ds P a => by obtain ⟨_, _, _, _, _, _, _, rfl, _⟩ := a; rfl) h) (fun cdv A outer s H vs Q E hr h => ⟨_, (pss_cons (ps_if (pt_not (pt_val (C8.pe_c C__has_form hr (by omega) rfl (pa_cons (pv 1) (pa_cons (pv 2) (pa_cons (pv 4) pa_nil)))))) (pss_one (ps_ret pe_bl)) pss_nil)
      (pss_cons (ps_asg (pv 2) (kgtup (K := K) (n := 2) rfl rfl (pgs_cons (pg_name (i := 5) sc_fits.nd rfl (.inl rfl)) (pgs_cons (pg_name (i := 6) sc_fits.nd rfl (.inl rfl)) pgs_nil))))
      (pss_cons (ps_asg (pv 4) (kgtup (K := K) (n := 2) rfl rfl (pgs_cons (pg_name (i := 7) sc_fits.nd rfl (.inl rfl)) (pgs_cons (pg_name (i := 8) sc_fits.nd rfl (.inl rfl)) pgs_nil))))
      (pss_cons (ps_if (pt_not (pt_val (pe_callB (kall (K := K) rfl rfl) (by rfl) B.all bt_all (pa_cons (pe_lc (own := [("number", 12)]) (g := gName 12) (tt := tYes) rfl sc_fits.nd (kpil (K := K) rfl (pe_lst (pa_cons (pv 3) (kstar (K := K) rfl (pv 7) pa_nil)))) (blkOk_by (N := ["group", "claim", "first", "challenge", "replied", "numbers", "moves", "replies", "answers", "branches", "move", "pairs", "number"]) (sc := defScope s_fits) (by decide +kernel))
        (fun _ _ _ _ _ => (pg_name (i := 12) sc_fits.nd rfl (.inl rfl))) (fun _ _ _ _ _ => pts_nil)
        (fun _ _ _ _ _ => (pe_chain op_le op_lt pe_int (pv 12) (kfld (K := K) rfl (pv 0))))) pa_nil)))) (pss_one (ps_ret pe_bl)) pss_nil)
      (pss_cons (ps_if (pt_cmpR (kned (K := K) rfl hr.units) (C8.pe_c C_simulated hr (by omega) rfl (pa_cons (pv 0) (pa_cons (kfld (K := K) rfl (pv 1)) (pa_cons (pv 3) (pa_cons (pv 7) pa_nil))))) (pv 5) (nomark _)) (pss_one (ps_ret pe_bl)) pss_nil)
      (pss_one (ps_ret (pe_callB (kall (K := K) rfl rfl) (by rfl) B.all bt_all (pa_cons (pe_lc (own := [("branches", 9), ("move", 10), ("pairs", 11)]) (tt := tYes) rfl sc_fits.nd (pi_zipT true true true (K := K) rfl (by rfl) B.zip (pa_cons (kfld (K := K) rfl (pv 1)) (pa_cons (pv 6) (pa_cons (pv 8) pa_nil)))) (blkOk_by (N := ["group", "claim", "first", "challenge", "replied", "numbers", "moves", "replies", "answers", "branches", "move", "pairs", "number"]) (sc := defScope s_fits) (by decide +kernel))
        (fun _ _ _ _ _ => (kgtup (K := K) (n := 3) rfl rfl (pgs_cons (pg_name (i := 9) sc_fits.nd rfl (.inl rfl)) (pgs_cons (pg_name (i := 10) sc_fits.nd rfl (.inl rfl)) (pgs_cons (pg_name (i := 11) sc_fits.nd rfl (.inl rfl)) pgs_nil))))) (fun _ _ _ _ _ => pts_nil)
        (fun _ _ _ _ _ => (C8.pe_c C__choice_fits hr (by omega) rfl (pa_cons (pv 0) (pa_cons (pv 9) (pa_cons (pv 10) (pa_cons (pv 3) (pa_cons (pv 11) pa_nil)))))))) pa_nil))))))))),
    fn_run h (fun po => (s_seq (s_if (fun _ => (a_not (a_tb (a_call (a_cons a_var (a_cons a_var (a_cons a_var a_nil))))))) (s_ret fun _ => a_bl) s_next)
      (s_seq (s_asg (vs := [5, 6]) (fun _ => a_var) (fun _ => (g_tup (g_cons (g_name (by decide)) (g_cons (g_name (by decide)) g_nil tot_name) tot_name))))
      (s_seq (s_asg (vs := [7, 8]) (fun _ => a_var) (fun _ => (g_tup (g_cons (g_name (by decide)) (g_cons (g_name (by decide)) g_nil tot_name) tot_name))))
      (s_seq (s_if (fun _ => (a_not (a_tb (a_b1 u_all (a_pk (a_fz (a_lc (vs := [12]) (i_list (a_fz (a_lstS (a_consS a_var (a_starS (a_pk a_var) a_nilS))))) (g_name (by decide)) a_yes (a_chain rok_B0 rok_B0 a_int a_var (a_fld T0.cl T0.n_q (c := 0) (i := 1) rfl a_var))))))))) (s_ret fun _ => a_bl) s_next)
      (s_seq (s_if (fun _ => (a_test (a_op pst_pk rok_neD (a_pk (a_call (a_cons a_var (a_cons (a_fld T2.cl T2.n_statement (c := 2) (i := 0) rfl a_var) (a_cons a_var (a_cons a_var a_nil)))))) (a_pk a_var)))) (s_ret fun _ => a_bl) s_next)
      (s_ret fun _ => (a_b1 u_all (a_pk (a_fz (a_lc (vs := [9, 10, 11]) (i_zip3 (a_cons (a_fld T2.cl T2.n_choices (c := 2) (i := 1) rfl a_var) (a_cons a_var (a_cons a_var a_nil)))) (g_tup (g_cons (g_name (by decide)) (g_cons (g_name (by decide)) (g_cons (g_name (by decide)) g_nil tot_name) tot_name) tot_name)) a_yes (a_call (a_cons a_var (a_cons a_var (a_cons a_var (a_cons a_var (a_cons a_var a_nil))))))))))))))))) (fun ds P a => by obtain ⟨_, _, _, _, _, _, _, rfl, _⟩ := a; exact Nat.le_of_ble_eq_true rfl) ?_⟩)
  rintro ds P ⟨p, q, c, gs, ⟨s, chs⟩, ⟨ms, mvs⟩, ⟨rs, ans⟩, rfl, hq, ⟨so, hl, ok⟩, ⟨m1, m2, m3⟩, ⟨r1, r2, r3⟩, hp⟩
  obtain ⟨q0, p0, p1⟩ := id hq
  have hp : ∀ b : Bool, (b = true ↔ rs.length = s.us.length ∧ mvs.length = chs.length ∧ ans.length = chs.length ∧ (0 ≤ c ∧ c < q) ∧ (∀ r ∈ rs, 0 ≤ r ∧ r < q) ∧ firsts p q s.us s.eqs c rs = ms ∧
    ∀ x ∈ chs.zip (mvs.zip ans), x.2.1.length = x.1.length ∧ x.2.2.length = x.1.length ∧ (x.2.2.map (·.1)).sum % q = c ∧ ∀ y ∈ x.1.zip (x.2.1.zip x.2.2), FitsC p q n y.1 y.2.1 y.2.2.1 y.2.2.2) → P (.bl b) := hp
  rw [sSeq, sIf]
  simp only [aNot, aTest_eq, aCall, aCons, aNil, aVar, List.map_cons, List.cons_append, dAt_0, dAt_s, dQ_d, bQ_bl]
  refine ⟨n, s, chs, ms, mvs, rs, ans, rfl, fun b hb => ?_⟩
  simp only [bQ_bl]
  cases b with
  | false =>
    refine hp _ ⟨fun z => (by cases z), fun z => ?_⟩
    exact absurd (hb.mpr ⟨z.1, z.2.1, z.2.2.1⟩) (by decide)
  | true =>
    obtain ⟨f1, f2, f3⟩ := hb.mp rfl
    refine twoZ rfl ?_
    rw [sNext]
    dsimp only
    rw [clO_s, mvD_s, ryD_s]
    unfold tupM
    refine seqG fun N hN => ?_
    walk_at "dd"
    subst hN
    refine seqG fun N hN => ?_
    walk_at "dd"
    subst hN
    refine seqG fun N hN => ?_
    walk_at "dd"
    simp only [aSz]
    walk_at "dd"
    rw [aStar]
    walk_at "dd"
    rw [List.append_nil, show Dat.int c :: rs.map Dat.int = (c :: rs).map Dat.int from rfl, List.length_map]
    refine ⟨by omega, by omega, ?_⟩
    refine lcA_relL (fun x y => ∃ b : Bool, y = Dat.bl b ∧ (b = true ↔ 0 ≤ x ∧ x < q)) (fun x hx Q hQ => ?_) fun ys pr => ?_
    · unfold grpD
      walk_at "dd"
      refine twoD (fun h => hQ _ ⟨_, rfl, ?_⟩) (fun h => hQ _ ⟨false, rfl, fun z => (by cases z), fun z => absurd z.1 h⟩)
      rw [decide_eq_true_iff]
      exact ⟨fun z => ⟨h, z⟩, fun z => z.2⟩
    refine paired_all pr fun b hb2 => ?_
    walk_at "dd"
    cases b with
    | false =>
      refine twoY rfl (hp _ ⟨fun z => (by cases z), fun z => hb2.mpr ?_⟩)
      intro x hx
      cases hx with
      | head => exact z.2.2.2.1
      | tail _ h => exact z.2.2.2.2.1 x h
    | true =>
      have hc := hb2.mp rfl
      have hc0 := hc c List.mem_cons_self
      have hc1 : ∀ r ∈ rs, 0 ≤ r ∧ r < q := fun r h => hc r (List.mem_cons_of_mem _ h)
      refine twoZ rfl ?_
      subst hN
      refine seqG fun N hN => ?_
      walk_at "dd"
      refine ⟨true, p, q, gs, s.us, s.eqs, c, rs, rfl, q0, p0, p1, so, by omega, ?_⟩
      refine ⟨(okE_tup (okE_ints _ 0)).up (Nat.le_of_ble_eq_true rfl), (okE_tup (okE_ints _ 0)).up (Nat.le_of_ble_eq_true rfl), fun b hb3 => ?_⟩
      walk_at "dd"
      have hb3 : b = true ↔ firsts p q s.us s.eqs c rs = ms := by
        rw [hb3]
        exact ⟨fun z => ints_inj (Dat.tup.inj z), fun z => by rw [z]⟩
      cases b with
      | false => exact hp _ ⟨fun z => (by cases z), fun z => hb3.mpr z.2.2.2.2.2.1⟩
      | true =>
        have hs := hb3.mp rfl
        subst hN
        walk_at "dd"
        simp only [iZip3A]
        walk_at "dd"
        rw [zip3D_map]
        refine ⟨by rw [List.length_map, List.length_zip]; omega, ?_⟩
        refine lcA_relL (fun x y => ∃ b : Bool, y = Dat.bl b ∧ (b = true ↔ x.2.1.length = x.1.length ∧ x.2.2.length = x.1.length ∧ (x.2.2.map (·.1)).sum % q = c ∧ ∀ y ∈ x.1.zip (x.2.1.zip x.2.2), FitsC p q n y.1 y.2.1 y.2.2.1 y.2.2.2)) (fun x hx Q hQ => ?_) fun ys pr => ?_
        · walk_at "dd"
          have j1 := List.of_mem_zip (zip_mem3 hx).1
          have j2 := List.of_mem_zip (zip_mem3 hx).2
          have i1 := ok _ j1.1
          exact ⟨p, q, c, gs, x.1, x.2.1, x.2.2, rfl, hq, ⟨by omega, i1.2.2⟩, m3 _ j1.2, r3 _ j2.2, fun b hb => hQ _ ⟨b, rfl, hb⟩⟩
        · refine paired_all pr fun b hb4 => hp b ?_
          rw [hb4]
          exact ⟨fun z => ⟨f1, f2, f3, hc0, hc1, hs, z⟩, fun z => z.2.2.2.2.2.2⟩
theorem rec_fits {f1 f2 : Addr} {fd1 fd2 : FuncData} (F1 : Fun K "_choice_fits" "_choice_fits" s__choice_fits f1 fd1) (m1 : mg "_choice_fits" = some (.ref f1)) (k1 : PySem.W.keepIn K (.ref f1) = true) (b1 : Binds K fd1 ["group", "branches", "moves", "challenge", "pairs"] [])
    (F2 : Fun K "fits" "fits" s_fits f2 fd2) (m2 : mg "fits" = some (.ref f2)) (k2 : PySem.W.keepIn K (.ref f2) = true) (b2 : Binds K fd2 ["group", "claim", "first", "challenge", "replied"] []) (T0 : GT K (ca 0)) (T2 : CT K (ca 2)) (B : Blt mg) (C_simulated : C8.Cal P w K mg base 5 "simulated" (toSp K ca aspSim) [])
    (C__has_form : C8.Cal P w K mg base 1 "_has_form" (toSp K ca aspForm) []) :
    ∀ n, C8.Cal P w K mg base (2 * n + 6) "fits" (toSp K ca (aspFits n)) [] ∧ C8.Cal P w K mg base (2 * n + 7) "_choice_fits" (toSp K ca (aspChFits n)) []
  | 0 => by
    have S : C8.Cal P w K mg base 6 "fits" (toSp K ca (aspFits 0)) [] := ⟨⟨f2, fd2, _, [], fn_vac fun _ _ ⟨_, _, _, _, c, _⟩ => c.elim, m2, k2, b2, .nil⟩⟩
    exact ⟨S, ⟨⟨f1, fd1, _, [], ok_choice_fits 0 F1 T0 B S, m1, k1, b1, .nil⟩⟩⟩
  | n + 1 => by
    have S : C8.Cal P w K mg base (2 * (n + 1) + 6) "fits" (toSp K ca (aspFits (n + 1))) [] := ⟨⟨f2, fd2, _, [], ok_fits n F2 T0 T2 B C_simulated C__has_form (rec_fits F1 m1 k1 b1 F2 m2 k2 b2 T0 T2 B C_simulated C__has_form n).2, m2, k2, b2, .nil⟩⟩
    exact ⟨S, ⟨⟨f1, fd1, _, [], ok_choice_fits (n + 1) F1 T0 B S, m1, k1, b1, .nil⟩⟩⟩
end
abbrev s_Claim___init__ : Stmt := inClass (top 11) 0
theorem sc_Claim___init__ : FnScope ["self", "statement", "choices", "branches"] ["self", "statement", "choices"] (defScope s_Claim___init__) := ⟨rfl, rfl, rfl, by decide +kernel, rfl, by decide +kernel, by decide +kernel⟩
section
variable {P : Program} {w : World} {K : PySem.W.Frag} {mg : Str → Option Value} {base : Heap} {ca : Nat → Addr}
def aspClI2 (k1 k2 : Bool) : ASpI := fun ds P => ∃ (d : Dat) (xss : List (List Dat)), ds = [d, sqD k1 (xss.map (sqD k2))] ∧ xss.length ≤ 1000 ∧ P [d, .tup (xss.map .tup)]
def aspClI : ASpI := fun ds P => ∃ k1, ∃ k2, aspClI2 k1 k2 ds P
theorem ok_cl_init {f : Addr} {fd : FuncData} (F : Fun K "__init__" "Claim.__init__" s_Claim___init__ f fd) (T2 : CT K (ca 2)) (B : Blt mg) : FnOk P w K mg base CX0 1 f fd ["self", "statement", "choices"] (toSpI K ca 2 aspClI) := by
  refine F.ok sc_Claim___init__ (fun vs H Q E h => by obtain ⟨k1, h⟩ := sp_exI h; obtain ⟨k2, h⟩ := sp_exI h; exact sp_lenI (n := 2) (fun ds P a => by obtain ⟨_, _, rfl, _⟩ := a; rfl) h) (fun cdv A outer s H vs Q E hr h => ?_)
  obtain ⟨k1, h⟩ := sp_exI h
  obtain ⟨k2, h⟩ := sp_exI h
  refine ⟨_, (pss_cons (ps_fld (pv 0) (pv 1) rfl)
      (pss_cons (ps_fld (pv 0) (pe_callTy (ktupF (K := K) rfl) (by rfl) B.tuple bt_tuple (pa_cons (pe_lc (own := [("branches", 3)]) (g := gName 3) (tt := tYes) rfl sc_Claim___init__.nd (pi_K k1 (K := K) rfl (pv 2)) (blkOk_by (N := ["self", "statement", "choices", "branches"]) (sc := defScope s_Claim___init__) (by decide +kernel))
        (fun _ _ _ _ _ => (pg_name (i := 3) sc_Claim___init__.nd rfl (.inl rfl))) (fun _ _ _ _ _ => pts_nil)
        (fun _ _ _ _ _ => (pe_callTy (ktupF (K := K) rfl) (by rfl) B.tuple bt_tuple (pa_cons (pv 3) pa_nil)))) pa_nil)) rfl) pss_nil)),
    fn_init h (fun po => (i_cons T2.cl T2.n_statement (k := 0) rfl (by decide) (by decide) (fun _ => a_var) (i_cons T2.cl T2.n_choices (k := 1) rfl (by decide) (by decide) (fun _ => (a_b1 u_tupOf (a_pk (a_fz (a_lc (vs := [3]) (i_K a_var) (g_name (by decide)) a_yes (a_b1 u_tupOf (a_pk a_var))))))) i_nil))) (fun ds P a => by obtain ⟨_, _, rfl, _⟩ := a; exact Nat.le_of_ble_eq_true rfl) ?_⟩
  rintro ds P ⟨d, xss, rfl, hl, hp⟩
  refine kQ_sq ⟨by rw [List.length_map]; omega, ?_⟩
  refine lcA_mapL (g := fun xs => Dat.tup xs) (fun x hx Q hQ => ?_) ?_
  · cases k2 with
    | true =>
      unfold sqD
      walk_at "dd"
      exact hQ
    | false =>
      unfold sqD
      walk_at "dd"
      exact hQ
  · exact hp
end
local macro_rules | `(tactic| walk_at "bv") => `(tactic| simp only [upV, upVF, upVT, vwS_d, vwS_u, vwS_o, vw_n, vw_b, vw_i, vw_s, vw_p, vw_l, vw_t, vw_o, vw_d, ftD_i, ftD_s, ftD_b, ftD_n, ftD_t, ftAll_n, ftAll_c, bDget, zPutD, bPn, bPc, bDisp, bMethX, bSeq, kMin2_i, aDget2, bk_dk, bk_ks, bk_dd, bk_st, kDget_s, dg_c, dg_n, kIxS_i, ofS_inj, Sum.inr.injEq, reduceIte, kInt_bl, Option.getD_none, Option.getD_some, zRaise, bCallX, bFldC, zSetF, bMake2, bFrzO, coQ_o, isC_c, upE, upF, upT, bFz, bCel, b2, b2F, b1, b1F, bNil, bCons, bTup, bTest, bNot, bAnd, bOr, bAndV, bOrV, bNotV, bIf, bCall, bCallF, bCall2, bFrz, elB, bLc, bYes, zNext, zSeq, zIf, zAsg, zSetO, zRet, zRetN, zDrop, zPar, zApp, zFz, zAug, zFor, zAppC, zPutC, zPutO, dId, drf_l, drf_t, drf_i, drf_s, drf_b, drf_n, drf_c, drf_o, drc_l, ceQ_c, inQ_i, cQ_l, Sto.put_s, elA, sSeq, sNext, sIf, sAsg, sSetO, sRet, sRetN, sDrop, sPar, sFz, sApp, sAug, sFor, oQ2_o, dQ_d, dQ2_d, dQ2_o, dAt_0, dAt_s, aVar, aPeek, aC, aFz, a2, a2F, a1, a1F, aCons, aNil, aTup, aTest_eq, aNot, aAnd, aOr, bQ_bl, aAndV, aOrV, aNotV, aIf, aChain, kI_i, kI0_i, kEq_i, kEq_s, kEq_b, kFld_o, oQ_some, aCall, aMeth, aMake, iSeq, lQ_lst, tQ_tup, sQ_lst, sQ_tup, iRan, gA, gTu, gNil_n, gCons_c, aLc, wipeA, kLen, kTupOf, kQ_t, kQ_l, iZipA, iEnA, aSlF, aSlT, aoN, aoS, aRevT, aRevL, kMax2_i, kCatS_s, kCatT_t, kCatL_l, kInt_i, kNeg_i, true_and, aYes, iCons, iNil, iDrop, kIsO_o, two_t, two_f, kIx_l, kIx_t, atI_0, atI_1, atI_2, atI_3, Bool.false_eq_true, if_false, if_true, kStr_i, kIsT_non, kIsT_bl, kIsT_int, kIsT_str, kIsT_lst, kIsT_tup, kIsN_non, kIsN_bl, kIsN_int, kIsN_str, kIsN_lst, kIsN_tup, kIsN_obj, kEq_nn, String.reduceEq, decide_true, decide_false, Bool.or_false, Bool.false_or, Bool.true_or, Bool.or_true, Bool.and_true, Bool.true_and, Bool.and_false, Bool.false_and, Bool.not_true, Bool.not_false, reduceCtorEq,   List.map_cons, List.map_nil, List.cons_append, List.nil_append, List.length_cons, List.length_nil, Nat.reduceAdd, Nat.reduceSub, List.replicate_succ, List.replicate_zero, List.set_cons_zero, List.set_cons_succ, List.getElem?_cons_zero, List.getElem?_cons_succ])
local macro_rules | `(tactic| walk_at "bw") => `(tactic| simp only [upV, upVF, upVT, vwS_d, vwS_u, vwS_o, vw_n, vw_b, vw_i, vw_s, vw_p, vw_l, vw_t, vw_o, vw_d, ftD_i, ftD_s, ftD_b, ftD_n, ftD_t, ftAll_n, ftAll_c, bDget, zPutD, bPn, bPc, bDisp, bMethX, bSeq, kMin2_i, aDget2, bk_dk, bk_ks, bk_dd, bk_st, kDget_s, dg_c, dg_n, kIxS_i, ofS_inj, Sum.inr.injEq, reduceIte, kInt_bl, Option.getD_none, Option.getD_some, zRaise, bCallX, bFldC, zSetF, bMake2, bFrzO, coQ_o, isC_c, upE, upF, upT, bFz, bCel, b2, b2F, b1, b1F, bNil, bCons, bTup, bTest, bNot, bAnd, bOr, bAndV, bOrV, bNotV, bIf, bCall, bCallF, bCall2, bFrz, elB, bLc, bYes, zNext, zIf, zAsg, zSetO, zRet, zRetN, zDrop, zPar, zApp, zFz, zAug, zFor, zAppC, zPutC, zPutO, dId, drf_l, drf_t, drf_i, drf_s, drf_b, drf_n, drf_c, drf_o, drc_l, ceQ_c, inQ_i, cQ_l, Sto.put_s, elA, sNext, sIf, sAsg, sSetO, sRet, sRetN, sDrop, sPar, sFz, sApp, sAug, sFor, oQ2_o, dQ_d, dQ2_d, dQ2_o, dAt_0, dAt_s, aVar, aPeek, aC, aFz, a2, a2F, a1, a1F, aCons, aNil, aTup, aTest_eq, aNot, aAnd, aOr, bQ_bl, aAndV, aOrV, aNotV, aIf, aChain, kI_i, kI0_i, kEq_i, kEq_s, kEq_b, kFld_o, oQ_some, aCall, aMeth, aMake, iSeq, lQ_lst, tQ_tup, sQ_lst, sQ_tup, iRan, gA, gTu, gNil_n, gCons_c, aLc, wipeA, kLen, kTupOf, kQ_t, kQ_l, iZipA, iEnA, aSlF, aSlT, aoN, aoS, aRevT, aRevL, kMax2_i, kCatS_s, kCatT_t, kCatL_l, kInt_i, kNeg_i, true_and, aYes, iCons, iNil, iDrop, kIsO_o, two_t, two_f, kIx_l, kIx_t, atI_0, atI_1, atI_2, atI_3, Bool.false_eq_true, if_false, if_true, kStr_i, kIsT_non, kIsT_bl, kIsT_int, kIsT_str, kIsT_lst, kIsT_tup, kIsN_non, kIsN_bl, kIsN_int, kIsN_str, kIsN_lst, kIsN_tup, kIsN_obj, kEq_nn, String.reduceEq, decide_true, decide_false, Bool.or_false, Bool.false_or, Bool.true_or, Bool.or_true, Bool.and_true, Bool.true_and, Bool.and_false, Bool.false_and, Bool.not_true, Bool.not_false, reduceCtorEq,   List.map_cons, List.map_nil, List.cons_append, List.nil_append, List.length_cons, List.length_nil, Nat.reduceAdd, Nat.reduceSub, List.replicate_succ, List.replicate_zero, List.set_cons_zero, List.set_cons_succ, List.getElem?_cons_zero, List.getElem?_cons_succ])
local macro_rules | `(tactic| walk_at "ds") => `(tactic| simp only [kMin2_i, aDget2, bk_dd, bk_st, kDget_s, dg_c, dg_n, kIxS_i, ofS_inj, Sum.inr.injEq, reduceIte, kInt_bl, Option.getD_none, Option.getD_some, elA, sSeq, sNext, sIf, sAsg, sSetO, sRet, sRetN, sDrop, sPar, sFz, sApp, sAug, sFor, oQ2_o, dQ_d, dQ2_d, dQ2_o, dAt_0, dAt_s, aVar, aPeek, aC, aFz, a2, a2F, a1, a1F, aCons, aNil, aTup, aTest_eq, aNot, aAnd, aOr, bQ_bl, aAndV, aOrV, aNotV, aIf, aChain, kI_i, kI0_i, kEq_i, kEq_s, kEq_b, kFld_o, oQ_some, aCall, aMeth, aMake, iSeq, lQ_lst, tQ_tup, sQ_lst, sQ_tup, iRan, gA, gTu, gNil_n, gCons_c, aLc, wipeA, kLen, kTupOf, kQ_t, kQ_l, iZipA, iEnA, aSlF, aSlT, aoN, aoS, aRevT, aRevL, kMax2_i, kCatS_s, kCatT_t, kCatL_l, kInt_i, kNeg_i, true_and, aYes, iCons, iNil, iDrop, kIsO_o, two_t, two_f, kIx_l, kIx_t, atI_0, atI_1, atI_2, atI_3, Bool.false_eq_true, if_false, if_true, kStr_i, kIsT_non, kIsT_bl, kIsT_int, kIsT_str, kIsT_lst, kIsT_tup, kIsN_non, kIsN_bl, kIsN_int, kIsN_str, kIsN_lst, kIsN_tup, kIsN_obj, kEq_nn, String.reduceEq, decide_true, decide_false, Bool.or_false, Bool.false_or, Bool.true_or, Bool.or_true, Bool.and_true, Bool.true_and, Bool.and_false, Bool.false_and, Bool.not_true, Bool.not_false, reduceCtorEq,
  List.map_cons, List.map_nil, List.cons_append, List.nil_append, List.length_cons, List.length_nil, Nat.reduceAdd, Nat.reduceSub, List.replicate_succ, List.replicate_zero, List.set_cons_zero, List.set_cons_succ, List.getElem?_cons_zero, List.getElem?_cons_succ])
local macro_rules | `(tactic| walk_at "wb") => `(tactic| first | walk_at "bw" | skip)
local macro_rules | `(tactic| walk_at "wv") => `(tactic| first | walk_at "bv" | skip)
abbrev s_Kind___init__ : Stmt := inClass (top 45) 0
theorem sc_Kind___init__ : FnScope ["self", "name", "fields", "field", "many"] ["self", "name", "fields"] (defScope s_Kind___init__) := ⟨rfl, rfl, rfl, by decide +kernel, rfl, by decide +kernel, by decide +kernel⟩
abbrev s_Kind___eq__ : Stmt := inClass (top 45) 1
theorem sc_Kind___eq__ : FnScope ["self", "other"] ["self", "other"] (defScope s_Kind___eq__) := ⟨rfl, rfl, rfl, by decide +kernel, rfl, by decide +kernel, by decide +kernel⟩
abbrev s_asking : Stmt := top 46
theorem sc_asking : FnScope ["group", "element", "factors"] ["group", "element"] (defScope s_asking) := ⟨rfl, rfl, rfl, by decide +kernel, rfl, by decide +kernel, by decide +kernel⟩
abbrev s_Request___init__ : Stmt := inClass (top 47) 0
theorem sc_Request___init__ : FnScope ["self", "kind", "element", "first"] ["self", "kind", "element", "first"] (defScope s_Request___init__) := ⟨rfl, rfl, rfl, by decide +kernel, rfl, by decide +kernel, by decide +kernel⟩
abbrev s_Issuer___init__ : Stmt := inClass (top 48) 0
theorem sc_Issuer___init__ : FnScope ["self", "name", "group", "kinds"] ["self", "name", "group", "kinds"] (defScope s_Issuer___init__) := ⟨rfl, rfl, rfl, by decide +kernel, rfl, by decide +kernel, by decide +kernel⟩
abbrev Fld := Str × Int
def fmD (x : Fld) : Dat := .tup [.str x.1, .int x.2]
def kdO (n : Str) (fs : List Fld) : Dat := .obj 3 [.str n, .tup (fs.map fmD)]
structure KdOk (n : Str) (fs : List Fld) : Prop where
  sn : PyData.strOk n = true
  ln : fs.length ≤ 100
  sf : ∀ f ∈ fs, PyData.strOk f.1 = true
theorem fmD_inj {x y : Fld} (h : fmD x = fmD y) : x = y := by
  unfold fmD at h
  rw [Dat.tup.injEq, List.cons.injEq, List.cons.injEq, Dat.str.injEq, Dat.int.injEq] at h
  exact Prod.ext h.1 h.2.1
theorem okE_fm {n : Str} {fs : List Fld} (h : KdOk n fs) : okE 64 (.tup (fs.map fmD)) :=
  (okE_tup (n := 3) (okE_maps fun f hf => okE_tup (n := 2) (okE_two (okE_str (h.sf f hf) _) (okE_int _ _)))).up (Nat.le_of_ble_eq_true rfl)
section
variable {P : Program} {w : World} {K : PySem.W.Frag} {mg : Str → Option Value} {base : Heap} {ca : Nat → Addr}
def aspKdIK (k : Bool) : ASpI := fun ds P => ∃ (n : Str) (fs : List Fld), ds = [.str n, sqD k (fs.map fmD)] ∧ fs.length ≤ 1000 ∧ P [.str n, .tup (fs.map fmD)]
def aspKdI : ASpI := fun ds P => ∃ k, aspKdIK k ds P
theorem ok_kd_init {f : Addr} {fd : FuncData} (F : Fun K "__init__" "Kind.__init__" s_Kind___init__ f fd) (T3 : KdT K (ca 3)) (B : Blt mg) : FnOk P w K mg base CX0 1 f fd ["self", "name", "fields"] (toSpI K ca 3 aspKdI) := by
  refine F.ok sc_Kind___init__ (fun vs H Q E h => by obtain ⟨k, h⟩ := sp_exI h; exact sp_lenI (n := 2) (fun ds P a => by obtain ⟨_, _, rfl, _⟩ := a; rfl) h) (fun cdv A outer s H vs Q E hr h => ?_)
  obtain ⟨k, h⟩ := sp_exI h
  refine ⟨_, (pss_cons (ps_fld (pv 0) (pv 1) rfl)
      (pss_cons (ps_fld (pv 0) (pe_callTy (ktupF (K := K) rfl) (by rfl) B.tuple bt_tuple (pa_cons (pe_lc (own := [("field", 3), ("many", 4)]) (tt := tYes) rfl sc_Kind___init__.nd (pi_K k (K := K) rfl (pv 2)) (blkOk_by (N := ["self", "name", "fields", "field", "many"]) (sc := defScope s_Kind___init__) (by decide +kernel))
        (fun _ _ _ _ _ => (kgtup (K := K) (n := 2) rfl rfl (pgs_cons (pg_name (i := 3) sc_Kind___init__.nd rfl (.inl rfl)) (pgs_cons (pg_name (i := 4) sc_Kind___init__.nd rfl (.inl rfl)) pgs_nil)))) (fun _ _ _ _ _ => pts_nil)
        (fun _ _ _ _ _ => (pe_tupF (pa_cons (pv 3) (pa_cons (pv 4) pa_nil))))) pa_nil)) rfl) pss_nil)),
    fn_init h (fun po => (i_cons T3.cl T3.n_name (k := 0) rfl (by decide) (by decide) (fun _ => a_var) (i_cons T3.cl T3.n_fields (k := 1) rfl (by decide) (by decide) (fun _ => (a_b1 u_tupOf (a_pk (a_fz (a_lc (vs := [3, 4]) (i_K a_var) (g_tup (g_cons (g_name (by decide)) (g_cons (g_name (by decide)) g_nil tot_name) tot_name)) a_yes (a_tup (a_cons a_var (a_cons a_var a_nil)))))))) i_nil))) (fun ds P a => by obtain ⟨_, _, rfl, _⟩ := a; exact Nat.le_of_ble_eq_true rfl) ?_⟩
  rintro ds P ⟨n, fs, rfl, hl, hp⟩
  walk_at "dd"
  refine kQ_sq ⟨by rw [List.length_map]; omega, ?_⟩
  refine lcA_mapL (g := fmD) (fun x hx Q hQ => hQ) ?_
  exact hp
def aspKdEq : ASp := fun ds P => ∃ (n m : Str) (fs gs : List Fld), ds = [kdO n fs, kdO m gs] ∧ KdOk n fs ∧ KdOk m gs ∧ ∀ b : Bool, (b = true ↔ n = m ∧ fs = gs) → P (.bl b)
theorem ok_kd_eq {f : Addr} {fd : FuncData} (F : Fun K "__eq__" "Kind.__eq__" s_Kind___eq__ f fd) (T3 : KdT K (ca 3)) (I_Kind : IsiC K (ca 3)) (G_Kind : mg "Kind" = some (.ref (ca 3))) (B : Blt mg) : FnOk P w K mg base CX0 1 f fd ["self", "other"] (toSp K ca aspKdEq) := by
  refine F.ok sc_Kind___eq__ (fun vs H Q E h => sp_len (n := 2) (fun ds P a => by obtain ⟨_, _, _, _, rfl, _⟩ := a; rfl) h) (fun cdv A outer s H vs Q E hr h => ⟨_, (pss_one (ps_ret (pe_and (pe_callB (kisi (K := K) rfl) (by rfl) B.isinstance bt_isinstance (pa_cons (pv 1) (pa_cons (pe_glob (v := .ref _) rfl G_Kind rfl) pa_nil))) (pe_and (pe_cmpR op_eq (kfld (K := K) rfl (pv 0)) (kfld (K := K) rfl (pv 1)) (nomark _)) (pe_one (pe_cmpR (keqd (K := K) rfl hr.units) (kfld (K := K) rfl (pv 0)) (kfld (K := K) rfl (pv 1)) (nomark _))))))),
    fn_run h (fun po => (s_ret fun _ => (a_andV (a_isO I_Kind a_var) (a_andV (a_op pst_rv rok_eq (a_fld T3.cl T3.n_name (c := 3) (i := 0) rfl a_var) (a_fld T3.cl T3.n_name (c := 3) (i := 0) rfl a_var)) (a_op pst_pk rok_eqD (a_pk (a_fld T3.cl T3.n_fields (c := 3) (i := 1) rfl a_var)) (a_pk (a_fld T3.cl T3.n_fields (c := 3) (i := 1) rfl a_var))))))) (fun ds P a => by obtain ⟨_, _, _, _, rfl, _⟩ := a; exact Nat.le_of_ble_eq_true rfl) ?_⟩)
  rintro ds P ⟨n, m, fs, gs, rfl, h1, h2, hp⟩
  unfold kdO
  walk_at "dd"
  refine twoI (fun e => ?_) (fun e => hp _ ⟨fun z => (by cases z), fun z => absurd z.1 (of_decide_eq_false e)⟩)
  have e := of_decide_eq_true e
  refine ⟨okE_fm h1, okE_fm h2, fun b hb => hp b ?_⟩
  rw [hb, Dat.tup.injEq]
  exact ⟨fun z => ⟨e, map_inj (fun _ _ => fmD_inj) z⟩, fun z => by rw [z.2]⟩
def askS (b0 b1 e : Int) : Stm := ⟨["r", "s"], [(e, [(b0, "r"), (b1, "s")])]⟩
def aspAsking : ASp := fun ds P => ∃ (p q e b0 b1 : Int) (bs : List Int), ds = [grpD p q (b0 :: b1 :: bs), .int e] ∧ P (clO 1 (askS b0 b1 e, []))
theorem ok_asking {f : Addr} {fd : FuncData} (F : Fun K "asking" "asking" s_asking f fd) (T0 : GT K (ca 0)) (K_Statement : C8.Mak P w K mg base 2 "Statement" (ca 1) (toSpI K ca 1 aspStI) []) (K_Claim : C8.Mak P w K mg base 1 "Claim" (ca 2) (toSpI K ca 2 aspClI) []) : FnOk P w K mg base CX0 4 f fd ["group", "element"] (toSp K ca aspAsking) := by
  refine F.ok sc_asking (fun vs H Q E h => sp_len (n := 2) (fun ds P a => by obtain ⟨_, _, _, _, _, _, rfl, _⟩ := a; rfl) h) (fun cdv A outer s H vs Q E hr h => ⟨_, (pss_cons (ps_set (i := 2) sc_asking.nd rfl (.inl rfl) (pe_tupF (pa_cons (pe_tupF (pa_cons (pe_ix (kixs (K := K) rfl) (kfld (K := K) rfl (pv 0)) pe_int (fun _ _ => rfl)) (pa_cons pe_str pa_nil))) (pa_cons (pe_tupF (pa_cons (pe_ix (kixs (K := K) rfl) (kfld (K := K) rfl (pv 0)) pe_int (fun _ _ => rfl)) (pa_cons pe_str pa_nil))) pa_nil))))
      (pss_one (ps_ret (C8.pe_mk K_Claim hr (by omega) rfl (pa_cons (C8.pe_mk K_Statement hr (by omega) rfl (pa_cons (pe_tupF (pa_cons pe_str (pa_cons pe_str pa_nil))) (pa_cons (pe_tupF (pa_cons (pe_tupF (pa_cons (pv 1) (pa_cons (pv 2) pa_nil))) pa_nil)) pa_nil))) (pa_cons (pe_tupF pa_nil) pa_nil)))))),
    fn_run h (fun po => (s_seq (s_set fun _ => (a_tup (a_cons (a_tup (a_cons (a_op pst_pk rok_ix (a_pk (a_fld T0.cl T0.n_bases (c := 0) (i := 2) rfl a_var)) a_int) (a_cons a_str a_nil))) (a_cons (a_tup (a_cons (a_op pst_pk rok_ix (a_pk (a_fld T0.cl T0.n_bases (c := 0) (i := 2) rfl a_var)) a_int) (a_cons a_str a_nil))) a_nil))))
      (s_ret fun _ => (a_make (a_cons (a_make (a_cons (a_tup (a_cons a_str (a_cons a_str a_nil))) (a_cons (a_tup (a_cons (a_tup (a_cons a_var (a_cons a_var a_nil))) a_nil)) a_nil))) (a_cons (a_tup a_nil) a_nil)))))) (fun ds P a => by obtain ⟨_, _, _, _, _, _, rfl, _⟩ := a; exact Nat.le_of_ble_eq_true rfl) ?_⟩)
  rintro ds P ⟨p, q, e, b0, b1, bs, rfl, hp⟩
  unfold grpD
  walk_at "dd"
  refine ⟨true, true, true, ["r", "s"], [(e, [(b0, "r"), (b1, "s")])], rfl, Nat.le_of_ble_eq_true rfl, by simp, ?_⟩
  exact ⟨true, true, _, [], rfl, by decide, hp⟩
def bspReqI : BSp := fun ds M X P => ∃ (x : Addr) (k e f : Dat), ds = [.cell x, k, e, f] ∧ M x = some (.obj 4 []) ∧ P .non (M.put x (some (.obj 4 [k, e, f, .non, .str "asked"])))
theorem ok_req_init {f : Addr} {fd : FuncData} (F : Fun K "__init__" "Request.__init__" s_Request___init__ f fd) (T4 : RqT K (ca 4)) (G : GlI mg) : FnOk P w K mg base (L2.CX P w) 1 f fd ["self", "kind", "element", "first"] (toSpI2 K ca 4 bspReqI) := by
  refine F.okX sc_Request___init__ (fun vs H Q E h => sp_lenI2 (n := 4) (fun ds M X P a => by obtain ⟨_, _, _, _, rfl, _⟩ := a; rfl) h) (fun cdv A outer s H vs Q E hr h => ⟨_, (pss_cons (ps_fld (pv 0) (pv 1) rfl)
      (pss_cons (ps_fld (pv 0) (pv 2) rfl)
      (pss_cons (ps_fld (pv 0) (pv 3) rfl)
      (pss_cons (ps_fld (pv 0) pe_non rfl)
      (pss_one (ps_fld (pv 0) (pe_gstr G.ASKED) rfl)))))),
    fn_runI2 h (fun po => (z_seq (z_setF (c := 4) (i := 0) T4.cl T4.n_kind rfl (by decide) (by decide) (fun _ => (b_up fun _ => a_var)) (fun _ => (b_up fun _ => a_var)))
      (z_seq (z_setF (c := 4) (i := 1) T4.cl T4.n_element rfl (by decide) (by decide) (fun _ => (b_up fun _ => a_var)) (fun _ => (b_up fun _ => a_var)))
      (z_seq (z_setF (c := 4) (i := 2) T4.cl T4.n_first rfl (by decide) (by decide) (fun _ => (b_up fun _ => a_var)) (fun _ => (b_up fun _ => a_var)))
      (z_seq (z_setF (c := 4) (i := 3) T4.cl T4.n_drawn rfl (by decide) (by decide) (fun _ => (b_up fun _ => a_var)) (fun _ => (b_up fun _ => a_non)))
      (z_setF (c := 4) (i := 4) T4.cl T4.n_state rfl (by decide) (by decide) (fun _ => (b_up fun _ => a_var)) (fun _ => (b_up fun _ => a_str)))))))) (fun ds M X P a => by obtain ⟨_, _, _, _, rfl, _⟩ := a; exact Nat.le_of_ble_eq_true rfl) ?_⟩)
  rintro ds M X P ⟨x, k, e, f, rfl, hM, hp⟩
  walk_at "bv"
  rw [hM]
  walk_at "bv"
  refine ⟨Nat.le_refl _, Nat.le_refl _, Nat.le_refl _, Nat.le_refl _, Nat.le_refl _, ?_⟩
  rw [Sto.pp, Sto.pp, Sto.pp, Sto.pp]
  exact hp
def bspIssI : BSp := fun ds M X P => ∃ (x : Addr) (n g : Dat) (ks : List Dat), ds = [.cell x, n, g, .lst ks] ∧ M x = some (.obj 5 []) ∧ ks.length ≤ 1000 ∧ ∀ b r, M b = none → M r = none → b ≠ r → P .non (((M.put x (some (.obj 5 [n, g, .tup ks, .cell b, .cell r]))).put b (some (.lst []))).put r (some (.lst [])))
theorem ok_iss_init {f : Addr} {fd : FuncData} (F : Fun K "__init__" "Issuer.__init__" s_Issuer___init__ f fd) (T5 : IsT K (ca 5)) (B : Blt mg) : FnOk P w K mg base (L2.CX P w) 1 f fd ["self", "name", "group", "kinds"] (toSpI2 K ca 5 bspIssI) := by
  refine F.okX sc_Issuer___init__ (fun vs H Q E h => sp_lenI2 (n := 4) (fun ds M X P a => by obtain ⟨_, _, _, _, rfl, _⟩ := a; rfl) h) (fun cdv A outer s H vs Q E hr h => ⟨_, (pss_cons (ps_fld (pv 0) (pv 1) rfl)
      (pss_cons (ps_fld (pv 0) (pv 2) rfl)
      (pss_cons (ps_fld (pv 0) (pe_callTy (ktupF (K := K) rfl) (by rfl) B.tuple bt_tuple (pa_cons (pv 3) pa_nil)) rfl)
      (pss_cons (ps_fld (pv 0) (pe_lst pa_nil) rfl)
      (pss_one (ps_fld (pv 0) (pe_lst pa_nil) rfl)))))),
    fn_runI2 h (fun po => (z_seq (z_setF (c := 5) (i := 0) T5.cl T5.n_name rfl (by decide) (by decide) (fun _ => (b_up fun _ => a_var)) (fun _ => (b_up fun _ => a_var)))
      (z_seq (z_setF (c := 5) (i := 1) T5.cl T5.n_group rfl (by decide) (by decide) (fun _ => (b_up fun _ => a_var)) (fun _ => (b_up fun _ => a_var)))
      (z_seq (z_setF (c := 5) (i := 2) T5.cl T5.n_kinds rfl (by decide) (by decide) (fun _ => (b_up fun _ => a_var)) (fun _ => (b_up fun _ => (a_b1 u_tupOf (a_pk a_var)))))
      (z_seq (z_setF (c := 5) (i := 3) T5.cl T5.n_book rfl (by decide) (by decide) (fun _ => (b_up fun _ => a_var)) (fun _ => (b_cel (b_upF fun _ => (a_lst a_nil)))))
      (z_setF (c := 5) (i := 4) T5.cl T5.n__requests rfl (by decide) (by decide) (fun _ => (b_up fun _ => a_var)) (fun _ => (b_cel (b_upF fun _ => (a_lst a_nil)))))))))) (fun ds M X P a => by obtain ⟨_, _, _, _, rfl, _⟩ := a; exact Nat.le_of_ble_eq_true rfl) ?_⟩)
  rintro ds M X P ⟨x, n, g, ks, rfl, hM, hl, hp⟩
  walk_at "bv"
  rw [hM]
  walk_at "bv"
  refine ⟨Nat.le_refl _, Nat.le_refl _, ?_⟩
  rw [Sto.pp]
  refine ⟨Nat.le_refl _, fun b hb => ?_⟩
  rw [Sto.pp] at hb ⊢
  have nb : x ≠ b := fun z => by
    rw [z, Sto.put_s] at hb
    cases hb
  rw [Sto.put_n (Ne.symm nb)] at hb
  rw [Sto.put_n nb, Sto.put_s]
  refine ⟨rfl, Nat.le_refl _, fun r hr => ?_⟩
  rw [Sto.pap nb] at hr ⊢
  have nrx : x ≠ r := fun z => by
    rw [z] at hr
    have nrb : r ≠ b := fun z2 => nb (z.trans z2)
    rw [Sto.put_n nrb, Sto.put_s] at hr
    cases hr
  have nrb : b ≠ r := fun z => by
    rw [← z, Sto.put_s] at hr
    cases hr
  rw [Sto.put_n (Ne.symm nrb), Sto.put_n (Ne.symm nrx)] at hr
  rw [Sto.put_n nrx, Sto.put_n nb, Sto.put_s]
  refine ⟨rfl, Nat.le_refl _, ?_⟩
  rw [Sto.comm (Ne.symm nrx), Sto.pap nb]
  exact hp b r hb hr nrb
end
abbrev s__may_have : Stmt := top 49
theorem sc__may_have : FnScope ["kind", "values", "value", "_", "many"] ["kind", "values"] (defScope s__may_have) := ⟨rfl, rfl, rfl, by decide +kernel, rfl, by decide +kernel, by decide +kernel⟩
abbrev s__counts : Stmt := top 50
theorem sc__counts : FnScope ["row", "day", "_", "granted", "revoked"] ["row", "day"] (defScope s__counts) := ⟨rfl, rfl, rfl, by decide +kernel, rfl, by decide +kernel, by decide +kernel⟩
abbrev s_Issuer_counting : Stmt := inClass (top 48) 5
theorem sc_Issuer_counting : FnScope ["self", "kind", "day", "index", "row"] ["self", "kind", "day"] (defScope s_Issuer_counting) := ⟨rfl, rfl, rfl, by decide +kernel, rfl, by decide +kernel, by decide +kernel⟩
abbrev s_Issuer__granted_kind : Stmt := inClass (top 48) 6
theorem sc_Issuer__granted_kind : FnScope ["self", "name", "kind"] ["self", "name"] (defScope s_Issuer__granted_kind) := ⟨rfl, rfl, rfl, by decide +kernel, rfl, by decide +kernel, by decide +kernel⟩
abbrev s_Issuer__request_due : Stmt := inClass (top 48) 7
theorem sc_Issuer__request_due : FnScope ["self", "number", "due", "request"] ["self", "number", "due"] (defScope s_Issuer__request_due) := ⟨rfl, rfl, rfl, by decide +kernel, rfl, by decide +kernel, by decide +kernel⟩
def drD : Option Int → Dat
  | none => .non
  | some c => .int c
structure BRow where
  kn : Str
  el : Int
  day : Int
  rev : Option Int
def rowD (r : BRow) : Dat := .tup [.str r.kn, .int r.el, .int r.day, drD r.rev]
structure Rq where
  kn : Str
  kf : List Fld
  el : Int
  ms : List Int
  dr : Option Int
  st : Str
/-- a first move, a reply without choices -/
def mvL (ms : List Int) : Dat := .tup [.tup (ms.map .int), .tup []]
def rqL (r : Rq) : List Dat := [kdO r.kn r.kf, .int r.el, mvL r.ms, drD r.dr, .str r.st]
abbrev Kd := Str × List Fld
def kdP (k : Kd) : Dat := kdO k.1 k.2
/-- an issuer's cell -/
def isL (n : Str) (p q : Int) (bs : List Int) (ks : List Kd) (bk rq : Addr) : List Dat := [.str n, grpD p q bs, .tup (ks.map kdP), .cell bk, .cell rq]
/-- a row counts at a day -/
def Cnt (r : BRow) (day : Int) : Bool := decide (r.day ≤ day) && (match r.rev with
  | none => true
  | some d => decide (day < d))
def mayH (fs : List Fld) (vs : List Int) : Bool := decide (vs.length = fs.length) && (List.zip vs fs).all fun x => decide (0 ≤ x.1) && decide (x.1 < x.2.2)
theorem all_map {α : Type} {xs : List α} {g : α → Bool} {P : Dat → Prop} (h : P (.bl (xs.all g))) : kAll (.lst (xs.map fun x => Dat.bl (g x))) P := ⟨xs.map g, by rw [List.map_map]; rfl, by
  rw [List.all_map]
  exact h⟩
section
variable {P : Program} {w : World} {K : PySem.W.Frag} {mg : Str → Option Value} {base : Heap} {ca : Nat → Addr}
def aspCnt : ASp := fun ds P => ∃ (r : BRow) (day : Int), ds = [rowD r, .int day] ∧ P (.bl (Cnt r day))
theorem ok_counts {f : Addr} {fd : FuncData} (F : Fun K "_counts" "_counts" s__counts f fd) : FnOk P w K mg base CX0 1 f fd ["row", "day"] (toSp K ca aspCnt) := by
  refine F.ok sc__counts (fun vs H Q E h => sp_len (n := 2) (fun ds P a => by obtain ⟨_, _, rfl, _⟩ := a; rfl) h) (fun cdv A outer s H vs Q E hr h => ⟨_, (pss_cons (ps_asg (pv 0) (kgtup (K := K) (n := 4) rfl rfl (pgs_cons (pg_name (i := 2) sc__counts.nd rfl (.inl rfl)) (pgs_cons (pg_name (i := 2) sc__counts.nd rfl (.inl rfl)) (pgs_cons (pg_name (i := 3) sc__counts.nd rfl (.inl rfl)) (pgs_cons (pg_name (i := 4) sc__counts.nd rfl (.inl rfl)) pgs_nil))))))
      (pss_one (ps_ret (pe_and (pe_cmpR op_le (pv 3) (pv 1) (nomark _)) (pe_one (pe_or (pe_cmpR op_isN (pv 4) pe_non (nomark _)) (pe_one (pe_cmpR op_gt (pv 4) (pv 1) (nomark _))))))))),
    fn_run h (fun po => (s_seq (s_asg (vs := [2, 2, 3, 4]) (fun _ => a_var) (fun _ => (g_tup (g_cons (g_name (by decide)) (g_cons (g_name (by decide)) (g_cons (g_name (by decide)) (g_cons (g_name (by decide)) g_nil tot_name) tot_name) tot_name) tot_name))))
      (s_ret fun _ => (a_andV (a_op pst_rv rok_B0 a_var a_var) (a_orV (a_op pst_rv rok_isN a_var a_non) (a_op pst_rv rok_B0 a_var a_var)))))) (fun ds P a => by obtain ⟨_, _, rfl, _⟩ := a; exact Nat.le_of_ble_eq_true rfl) ?_⟩)
  rintro ds P ⟨⟨kn, el, d, rev⟩, day, rfl, hp⟩
  unfold rowD
  walk_at "dd"
  cases rev with
  | none =>
    unfold drD
    walk_at "dd"
    have e : Cnt ⟨kn, el, d, none⟩ day = decide (d ≤ day) := Bool.and_true _
    rw [e] at hp
    refine twoD (fun h => ?_) (fun h => ?_)
    · rw [decide_eq_true h] at hp
      exact hp
    · rw [decide_eq_false h] at hp
      exact hp
  | some c =>
    unfold drD
    walk_at "dd"
    have e : Cnt ⟨kn, el, d, some c⟩ day = (decide (d ≤ day) && decide (day < c)) := rfl
    rw [e] at hp
    refine twoD (fun h => ?_) (fun h => ?_)
    · rw [decide_eq_true h, Bool.true_and] at hp
      exact hp
    · rw [decide_eq_false h, Bool.false_and] at hp
      exact hp
def aspMay : ASp := fun ds P => ∃ (n : Str) (fs : List Fld) (vs : List Int), ds = [kdO n fs, .lst (vs.map .int)] ∧ (fs.length ≤ 1000 ∧ vs.length ≤ 1000) ∧ P (.bl (mayH fs vs))
theorem ok_may {f : Addr} {fd : FuncData} (F : Fun K "_may_have" "_may_have" s__may_have f fd) (T3 : KdT K (ca 3)) (B : Blt mg) : FnOk P w K mg base CX0 1 f fd ["kind", "values"] (toSp K ca aspMay) := by
  refine F.ok sc__may_have (fun vs H Q E h => sp_len (n := 2) (fun ds P a => by obtain ⟨_, _, _, rfl, _⟩ := a; rfl) h) (fun cdv A outer s H vs Q E hr h => ⟨_, (pss_cons (ps_if (pt_cmpR op_ne (pe_callB (klen (K := K) rfl) (by rfl) B.len bt_len (pa_cons (pv 1) pa_nil)) (pe_callB (klen (K := K) rfl) (by rfl) B.len bt_len (pa_cons (kfld (K := K) rfl (pv 0)) pa_nil)) (nomark _)) (pss_one (ps_ret pe_bl)) pss_nil)
      (pss_one (ps_ret (pe_callB (kall (K := K) rfl rfl) (by rfl) B.all bt_all (pa_cons (pe_lc (own := [("value", 2), ("_", 3), ("many", 4)]) (tt := tYes) rfl sc__may_have.nd (pi_zipF false true (K := K) rfl (by rfl) B.zip (pa_cons (pv 1) (pa_cons (kfld (K := K) rfl (pv 0)) pa_nil))) (blkOk_by (N := ["kind", "values", "value", "_", "many"]) (sc := defScope s__may_have) (by decide +kernel))
        (fun _ _ _ _ _ => (kgtup (K := K) (n := 2) rfl rfl (pgs_cons (pg_name (i := 2) sc__may_have.nd rfl (.inl rfl)) (pgs_cons (kgtup (K := K) (n := 2) rfl rfl (pgs_cons (pg_name (i := 3) sc__may_have.nd rfl (.inl rfl)) (pgs_cons (pg_name (i := 4) sc__may_have.nd rfl (.inl rfl)) pgs_nil))) pgs_nil)))) (fun _ _ _ _ _ => pts_nil)
        (fun _ _ _ _ _ => (pe_chain op_le op_lt pe_int (pv 2) (pv 4)))) pa_nil))))),
    fn_run h (fun po => (s_seq (s_if (fun _ => (a_test (a_op pst_rv rok_ne (a_b1 u_len (a_pk a_var)) (a_b1 u_len (a_pk (a_fld T3.cl T3.n_fields (c := 3) (i := 1) rfl a_var)))))) (s_ret fun _ => a_bl) s_next)
      (s_ret fun _ => (a_b1 u_all (a_pk (a_fz (a_lc (vs := [2, 3, 4]) (i_zip (a_cons a_var (a_cons (a_fld T3.cl T3.n_fields (c := 3) (i := 1) rfl a_var) a_nil))) (g_tup (g_cons (g_name (by decide)) (g_cons (g_tup (g_cons (g_name (by decide)) (g_cons (g_name (by decide)) g_nil tot_name) tot_name)) g_nil (tot_tup (tot_cons tot_name (tot_cons tot_name tot_nil)))) tot_name)) a_yes (a_chain rok_B0 rok_B0 a_int a_var a_var)))))))) (fun ds P a => by obtain ⟨_, _, _, rfl, _⟩ := a; exact Nat.le_of_ble_eq_true rfl) ?_⟩)
  rintro ds P ⟨n, fs, vs, rfl, ⟨l1, l2⟩, hp⟩
  unfold kdO
  walk_at "dd"
  rw [List.length_map, List.length_map]
  refine twoN (fun h => ?_) (fun h => ?_)
  · have e : mayH fs vs = false := by
      unfold mayH
      rw [decide_eq_false (fun z => h (by rw [z])), Bool.false_and]
    rw [e] at hp
    exact hp
  · have e : mayH fs vs = (List.zip vs fs).all fun x => decide (0 ≤ x.1) && decide (x.1 < x.2.2) := by
      unfold mayH
      rw [decide_eq_true (by omega), Bool.true_and]
    rw [e] at hp
    rw [zipD_map]
    refine ⟨by rw [List.length_map, List.length_zip]; omega, ?_⟩
    refine lcA_mapL (g := fun x : Int × Fld => Dat.bl (decide (0 ≤ x.1) && decide (x.1 < x.2.2))) (fun x hx Q hQ => ?_) ?_
    · unfold fmD
      walk_at "dd"
      refine twoD (fun h => ?_) (fun h => ?_)
      · rw [decide_eq_true h, Bool.true_and] at hQ
        exact hQ
      · rw [decide_eq_false h, Bool.false_and] at hQ
        exact hQ
    · exact all_map hp
def aspCounting : ASp := fun ds P => ∃ (n kd : Str) (day : Int) (g ks rq : Dat) (rows : List BRow), ds = [.obj 5 [.str n, g, ks, .lst (rows.map rowD), rq], .str kd, .int day] ∧ rows.length ≤ 1000 ∧ P (.lst (((rows.zipIdx.filter fun x => decide (x.1.kn = kd) && Cnt x.1 day).map (·.2)).map fun (i : Nat) => .int i))
theorem ok_counting {f : Addr} {fd : FuncData} (F : Fun K "counting" "Issuer.counting" s_Issuer_counting f fd) (T5 : IsT K (ca 5)) (B : Blt mg) (C__counts : C8.Cal P w K mg base 1 "_counts" (toSp K ca aspCnt) []) : FnOk P w K mg base CX0 2 f fd ["self", "kind", "day"] (toSp K ca aspCounting) := by
  refine F.ok sc_Issuer_counting (fun vs H Q E h => sp_len (n := 3) (fun ds P a => by obtain ⟨_, _, _, _, _, _, _, rfl, _⟩ := a; rfl) h) (fun cdv A outer s H vs Q E hr h => ⟨_, (pss_one (ps_ret (pe_lc (own := [("index", 3), ("row", 4)]) rfl sc_Issuer_counting.nd (pi_enumF false (K := K) rfl (by rfl) B.enumerate (pa_cons (kfld (K := K) rfl (pv 0)) pa_nil)) (blkOk_by (N := ["self", "kind", "day", "index", "row"]) (sc := defScope s_Issuer_counting) (by decide +kernel))
        (fun _ _ _ _ _ => (kgtup (K := K) (n := 2) rfl rfl (pgs_cons (pg_name (i := 3) sc_Issuer_counting.nd rfl (.inl rfl)) (pgs_cons (pg_name (i := 4) sc_Issuer_counting.nd rfl (.inl rfl)) pgs_nil)))) (fun _ _ _ _ _ => pts_one (PW.pt (pw_and (pt_cmpR op_eq (pe_ix (kixs (K := K) rfl) (pv 4) pe_int (fun _ _ => rfl)) (pv 1) (nomark _)) (pw_and1 (pt_val (C8.pe_c C__counts hr (by omega) rfl (pa_cons (pv 4) (pa_cons (pv 2) pa_nil))))))))
        (fun _ _ _ _ _ => (pv 3))))),
    fn_run h (fun po => (s_ret fun _ => (a_fz (a_lc (vs := [3, 4]) (i_enum (a_cons (a_fld T5.cl T5.n_book (c := 5) (i := 3) rfl a_var) a_nil)) (g_tup (g_cons (g_name (by decide)) (g_cons (g_name (by decide)) g_nil tot_name) tot_name)) (a_and (a_test (a_op pst_rv rok_eq (a_op pst_pk rok_ix (a_pk a_var) a_int) a_var)) (a_tb (a_call (a_cons a_var (a_cons a_var a_nil))))) a_var)))) (fun ds P a => by obtain ⟨_, _, _, _, _, _, _, rfl, _⟩ := a; exact Nat.le_of_ble_eq_true rfl) ?_⟩)
  rintro ds P ⟨n, kd, day, g, ks, rq, rows, rfl, l1, hp⟩
  walk_at "dd"
  rw [enumD_map]
  refine ⟨by rw [List.length_map, List.length_zipIdx]; omega, ?_⟩
  refine lcA_filL (g := fun x : BRow × Nat => Dat.int (x.2 : Nat)) (fun x => decide (x.1.kn = kd) && Cnt x.1 day) (fun x hx Q q1 q2 => ?_) ?_
  · unfold rowD
    walk_at "dd"
    refine twoD (fun h => ?_) (fun h => ?_)
    · rw [decide_eq_true h, Bool.true_and] at q1 q2
      refine ⟨x.1, day, rfl, ?_⟩
      walk_at "dd"
      exact twoI q1 q2
    · rw [decide_eq_false h, Bool.false_and] at q2
      exact q2 rfl
  · rw [List.map_map] at hp
    exact hp
def gkB (nm : Str) (l : Nat) (k : Kd) : Bool := decide (k.1 = nm) && decide (k.2.length + 2 ≤ l)
def bspGk : BSp := fun ds M X P => ∃ (x bk rq : Addr) (n nm : Str) (p q : Int) (bs : List Int) (ks : List Kd), ds = [.cell x, .str nm] ∧ M x = some (.obj 5 (isL n p q bs ks bk rq)) ∧ (∀ k, ks.find? (gkB nm bs.length) = some k → P (kdP k) M) ∧ (ks.find? (gkB nm bs.length) = none → X 11 [.str "kind"] M)
theorem ok_gk {f : Addr} {fd : FuncData} (F : Fun K "_granted_kind" "Issuer._granted_kind" s_Issuer__granted_kind f fd) (T0 : GT K (ca 0)) (T3 : KdT K (ca 3)) (T5 : IsT K (ca 5)) (B : Blt mg) (XM_BadRequest : XMk P w K mg base "BadRequest" (ca 11) "what") : FnOk P w K mg base (L2.CX P w) 3 f fd ["self", "name"] (toSp2 K ca bspGk) := by
  refine F.okX sc_Issuer__granted_kind (fun vs H Q E h => sp_len2 (n := 2) (fun ds M X P a => by obtain ⟨_, _, _, _, _, _, _, _, _, rfl, _⟩ := a; rfl) h) (fun cdv A outer s H vs Q E hr h => ⟨_, (pss_cons (ps_for (passes_of rfl) rfl (kpit (K := K) rfl (kfld (K := K) rfl (pv 0))) (pg_name (i := 2) sc_Issuer__granted_kind.nd rfl (.inl rfl))
      (pss_one (ps_if (PW.pt (pw_and (pt_cmpR op_eq (kfld (K := K) rfl (pv 2)) (pv 1) (nomark _)) (pw_and1 (pt_cmpR op_le (pe_callB (klen (K := K) rfl) (by rfl) B.len bt_len (pa_cons (kfld (K := K) rfl (pv 2)) pa_nil)) (pe_op op_sub (pe_callB (klen (K := K) rfl) (by rfl) B.len bt_len (pa_cons (kfld (K := K) rfl (kfld (K := K) rfl (pv 0))) pa_nil)) pe_int) (nomark _))))) (pss_one (ps_ret (pv 2))) pss_nil)))
      (pss_one (ps_raise rfl (takes_of rfl rfl rfl rfl) (pmk_x XM_BadRequest hr (by omega) rfl (pa_cons pe_str pa_nil))))),
    fn_run2 h (fun po => (z_seq (z_for (vs := [2]) (fun _ => (b_itT (b_fldC (c := 5) (i := 2) T5.cl T5.n_kinds rfl (b_up fun _ => a_var)))) (fun _ => (g_name (by decide)))
      (z_if (fun _ => (b_upVT 3 fun _ => (a_and (a_test (a_op pst_rv rok_eq (a_fld T3.cl T3.n_name (c := 3) (i := 0) rfl a_var) a_var)) (a_test (a_op pst_rv rok_B0 (a_b1 u_len (a_pk (a_fld T3.cl T3.n_fields (c := 3) (i := 1) rfl a_var))) (a_op pst_rv rok_I0 (a_b1 u_len (a_pk (a_fld T0.cl T0.n_bases (c := 0) (i := 2) rfl (a_fld T5.cl T5.n_group (c := 5) (i := 1) rfl a_var)))) a_int)))))) (z_ret fun _ => (b_up fun _ => a_var)) z_next))
      (z_raiseO rfl (fun _ => (b_upA fun _ => (a_cons a_str a_nil)))))) (fun ds M X P a => by obtain ⟨_, _, _, _, _, _, _, _, _, rfl, _⟩ := a; exact Nat.le_of_ble_eq_true rfl) ?_⟩)
  rintro ds M X P ⟨x, bk, rq, n, nm, p, q, bs, ks, rfl, hM, h1, h2⟩
  refine zseqG fun N hN => ?_
  walk_at "bw"
  rw [hM]
  unfold isL
  walk_at "bw"
  refine forB_suf (f := kdP) (fun xs env M' => M' = M ∧ (∃ y, env = [Sl.d (Dat.cell x), Sl.d (Dat.str nm), y]) ∧ ks.find? (gkB nm bs.length) = xs.find? (gkB nm bs.length)) ?_ ?_ ks _ _ ⟨rfl, ⟨_, rfl⟩, rfl⟩
  · rintro ⟨kn, kf⟩ xs env M' ⟨rfl, ⟨y, rfl⟩, inv⟩ N2 hN2
    unfold kdP kdO
    walk_at "bw"
    rw [vw_obj hM rfl]
    unfold isL grpD
    walk_at "bw"
    rw [List.length_map, List.length_map]
    have no : gkB nm bs.length (kn, kf) = false → ks.find? (gkB nm bs.length) = xs.find? (gkB nm bs.length) := fun z => inv.trans (List.find?_cons_of_neg (by rw [z]; decide))
    refine twoD (fun e1 => ?_) (fun e1 => hN2 _ _ ⟨rfl, ⟨_, rfl⟩, no (by unfold gkB; rw [decide_eq_false e1, Bool.false_and])⟩)
    refine twoD (fun e2 => ?_) (fun e2 => hN2 _ _ ⟨rfl, ⟨_, rfl⟩, no (by unfold gkB; rw [decide_eq_false (show ¬ kf.length + 2 ≤ bs.length by omega), Bool.and_false])⟩)
    refine h1 (kn, kf) (inv.trans (List.find?_cons_of_pos ?_))
    unfold gkB
    rw [decide_eq_true e1, decide_eq_true (show kf.length + 2 ≤ bs.length by omega)]
    rfl
  · rintro env M' ⟨rfl, ⟨y, rfl⟩, inv⟩
    subst hN
    dsimp only
    walk_at "bw"
    exact h2 inv
def bspDue : BSp := fun ds M X P => ∃ (x bk rq : Addr) (n due : Str) (nb p q : Int) (bs : List Int) (ks : List Kd) (ra : List Addr), ds = [.cell x, .int nb, .str due] ∧ M x = some (.obj 5 (isL n p q bs ks bk rq)) ∧ M rq = some (.lst (ra.map .cell)) ∧ (¬ (0 ≤ nb ∧ nb < ra.length) → X 11 [.str "number"] M) ∧
  (∀ (i : Nat) (a : Addr), nb = i → ra[i]? = some a → ∃ r, M a = some (.obj 4 (rqL r)) ∧ (r.st = due → P (.cell a) M) ∧ (r.st ≠ due → X 13 [.str r.st] M))
theorem ok_due {f : Addr} {fd : FuncData} (F : Fun K "_request_due" "Issuer._request_due" s_Issuer__request_due f fd) (T4 : RqT K (ca 4)) (T5 : IsT K (ca 5)) (B : Blt mg) (XM_BadRequest : XMk P w K mg base "BadRequest" (ca 11) "what") (XM_BadTurn : XMk P w K mg base "BadTurn" (ca 13) "what") : FnOk P w K mg base (L2.CX P w) 3 f fd ["self", "number", "due"] (toSp2 K ca bspDue) := by
  refine F.okX sc_Issuer__request_due (fun vs H Q E h => sp_len2 (n := 3) (fun ds M X P a => by obtain ⟨_, _, _, _, _, _, _, _, _, _, _, rfl, _⟩ := a; rfl) h) (fun cdv A outer s H vs Q E hr h => ⟨_, (pss_cons (ps_if (pt_not (pt_chain op_le op_lt pe_int (pv 1) (pe_callB (klen (K := K) rfl) (by rfl) B.len bt_len (pa_cons (kfld (K := K) rfl (pv 0)) pa_nil)))) (pss_one (ps_raise rfl (takes_of rfl rfl rfl rfl) (pmk_x XM_BadRequest hr (by omega) rfl (pa_cons pe_str pa_nil)))) pss_nil)
      (pss_cons (ps_set (i := 3) sc_Issuer__request_due.nd rfl (.inl rfl) (pe_ix (kixs (K := K) rfl) (kfld (K := K) rfl (pv 0)) (pv 1) (fun _ _ => rfl)))
      (pss_cons (ps_if (pt_cmpR op_ne (kfld (K := K) rfl (pv 3)) (pv 2) (nomark _)) (pss_one (ps_raise rfl (takes_of rfl rfl rfl rfl) (pmk_x XM_BadTurn hr (by omega) rfl (pa_cons (kfld (K := K) rfl (pv 3)) pa_nil)))) pss_nil)
      (pss_one (ps_ret (pv 3)))))),
    fn_run2 h (fun po => (z_seq (z_if (fun _ => (b_upVT 3 fun _ => (a_not (a_test (a_chain rok_B0 rok_B0 a_int a_var (a_b1 u_len (a_pk (a_fld T5.cl T5.n__requests (c := 5) (i := 4) rfl a_var)))))))) (z_raiseO rfl (fun _ => (b_upA fun _ => (a_cons a_str a_nil)))) z_next)
      (z_seq (z_set fun _ => (b_op pst_pk2 cv_pk cv_rv rok_ix (b_pk (b_fldC (c := 5) (i := 4) T5.cl T5.n__requests rfl (b_up fun _ => a_var))) (b_up fun _ => a_var)))
      (z_seq (z_if (fun _ => (b_upVT 3 fun _ => (a_test (a_op pst_rv rok_ne (a_fld T4.cl T4.n_state (c := 4) (i := 4) rfl a_var) a_var)))) (z_raiseO rfl (fun _ => (b_cons (b_upV 3 fun _ => (a_fld T4.cl T4.n_state (c := 4) (i := 4) rfl a_var)) b_nil))) z_next)
      (z_ret fun _ => (b_up fun _ => a_var)))))) (fun ds M X P a => by obtain ⟨_, _, _, _, _, _, _, _, _, _, _, rfl, _⟩ := a; exact Nat.le_of_ble_eq_true rfl) ?_⟩)
  rintro ds M X P ⟨x, bk, rq, n, due, nb, p, q, bs, ks, ra, rfl, hx, hq, h1, h2⟩
  refine zseqG fun N hN => ?_
  walk_at "bw"
  rw [vw_obj hx rfl]
  unfold isL
  walk_at "bw"
  rw [vw_lst hq]
  walk_at "bw"
  rw [List.length_map, List.length_map]
  refine twoD (fun g0 => ?_) (fun g0 => h1 fun z => g0 z.1)
  refine twoN (fun g1 => h1 fun z => g1 z.2) (fun g1 => ?_)
  obtain ⟨i, rfl⟩ : ∃ i : Nat, nb = i := ⟨nb.toNat, by omega⟩
  have hi : ra[i]? = some ra[i] := List.getElem?_eq_getElem (by omega)
  obtain ⟨r, hr, h3, h4⟩ := h2 i _ rfl hi
  generalize ra[i] = a at hi hr h3
  subst hN
  refine zseqG fun N hN => ?_
  walk_at "bw"
  rw [hx]
  unfold isL
  walk_at "bw"
  rw [hq]
  walk_at "bw"
  refine oa_at rfl hi ?_
  subst hN
  refine zseqG fun N hN => ?_
  walk_at "bw"
  rw [vw_obj hr rfl]
  unfold rqL
  walk_at "bw"
  refine twoN (fun h => h4 h) (fun h => ?_)
  subst hN
  walk_at "bw"
  exact h3 h
end
local macro_rules | `(tactic| walk_at "dw1") => `(tactic| simp only [aSz, aDc, elD, aDIn, aStar, bk_ks, Option.map_some, Option.map_none, Option.isSome_some, Option.isSome_none, kMin2_i, aDget2, bk_dd, bk_st, kDget_s, dg_c, dg_n, kIxS_i, ofS_inj, Sum.inr.injEq, reduceIte, kInt_bl, Option.getD_none, Option.getD_some, elA, sNext, sIf, sAsg, sSetO, sRet, sRetN, sDrop, sPar, sFz, sApp, sAug, sFor, oQ2_o, dQ_d, dQ2_d, dQ2_o, dAt_0, dAt_s, aVar, aPeek, aC, aFz, a2, a2F, a1, a1F, aCons, aNil, aTup, aTest_eq, aNot, aAnd, aOr, bQ_bl, aAndV, aOrV, aNotV, aIf, aChain, kI_i, kI0_i, kEq_i, kEq_s, kEq_b, kFld_o, oQ_some, aCall, aMeth, aMake, iSeq, lQ_lst, tQ_tup, sQ_lst, sQ_tup, iRan, gA, gTu, gNil_n, gCons_c, aLc, wipeA, kLen, kTupOf, kQ_t, kQ_l, iZipA, iEnA, aSlF, aSlT, aoN, aoS, aRevT, aRevL, kMax2_i, kCatS_s, kCatT_t, kCatL_l, kInt_i, kNeg_i, true_and, aYes, iCons, iNil, iDrop, kIsO_o, two_t, two_f, kIx_l, kIx_t, atI_0, atI_1, atI_2, atI_3, Bool.false_eq_true, if_false, if_true, kStr_i, kIsT_non, kIsT_bl, kIsT_int, kIsT_str, kIsT_lst, kIsT_tup, kIsN_non, kIsN_bl, kIsN_int, kIsN_str, kIsN_lst, kIsN_tup, kIsN_obj, kEq_nn, String.reduceEq, decide_true, decide_false, Bool.or_false, Bool.false_or, Bool.true_or, Bool.or_true, Bool.and_true, Bool.true_and, Bool.and_false, Bool.false_and, Bool.not_true, Bool.not_false, reduceCtorEq,
  List.map_cons, List.map_nil, List.cons_append, List.nil_append, List.length_cons, List.length_nil, Nat.reduceAdd, Nat.reduceSub, List.replicate_succ, List.replicate_zero, List.set_cons_zero, List.set_cons_succ, List.getElem?_cons_zero, List.getElem?_cons_succ])
local macro_rules | `(tactic| walk_at "dw") => `(tactic| first | walk_at "dw1" | skip)
local macro_rules | `(tactic| walk_at "wq1") => `(tactic| simp only [bMeth2, bPop, bRan, aSz, aDc, elD, aDIn, aStar, bk_ks, Option.map_some, Option.map_none, Option.isSome_some, Option.isSome_none, upV, upVF, upVT, vwS_d, vwS_u, vwS_o, vw_n, vw_b, vw_i, vw_s, vw_p, vw_l, vw_t, vw_o, vw_d, ftD_i, ftD_s, ftD_b, ftD_n, ftD_t, ftAll_n, ftAll_c, bDget, zPutD, bPn, bPc, bDisp, bMethX, bSeq, kMin2_i, aDget2, bk_dk, bk_ks, bk_dd, bk_st, kDget_s, dg_c, dg_n, kIxS_i, ofS_inj, Sum.inr.injEq, reduceIte, kInt_bl, Option.getD_none, Option.getD_some, zRaise, bCallX, bFldC, zSetF, bMake2, bFrzO, coQ_o, isC_c, upE, upF, upT, bFz, bCel, b2, b2F, b1, b1F, bNil, bCons, bTup, bTest, bNot, bAnd, bOr, bAndV, bOrV, bNotV, bIf, bCall, bCallF, bCall2, bFrz, elB, bLc, bYes, zNext, zIf, zAsg, zSetO, zRet, zRetN, zDrop, zPar, zApp, zFz, zAug, zFor, zAppC, zPutC, zPutO, dId, drf_l, drf_t, drf_i, drf_s, drf_b, drf_n, drf_c, drf_o, drc_l, ceQ_c, inQ_i, cQ_l, Sto.put_s, elA, sNext, sIf, sAsg, sSetO, sRet, sRetN, sDrop, sPar, sFz, sApp, sAug, sFor, oQ2_o, dQ_d, dQ2_d, dQ2_o, dAt_0, dAt_s, aVar, aPeek, aC, aFz, a2, a2F, a1, a1F, aCons, aNil, aTup, aTest_eq, aNot, aAnd, aOr, bQ_bl, aAndV, aOrV, aNotV, aIf, aChain, kI_i, kI0_i, kEq_i, kEq_s, kEq_b, kFld_o, oQ_some, aCall, aMeth, aMake, iSeq, lQ_lst, tQ_tup, sQ_lst, sQ_tup, iRan, gA, gTu, gNil_n, gCons_c, aLc, wipeA, kLen, kTupOf, kQ_t, kQ_l, iZipA, iEnA, aSlF, aSlT, aoN, aoS, aRevT, aRevL, kMax2_i, kCatS_s, kCatT_t, kCatL_l, kInt_i, kNeg_i, true_and, aYes, iCons, iNil, iDrop, kIsO_o, two_t, two_f, kIx_l, kIx_t, atI_0, atI_1, atI_2, atI_3, Bool.false_eq_true, if_false, if_true, kStr_i, kIsT_non, kIsT_bl, kIsT_int, kIsT_str, kIsT_lst, kIsT_tup, kIsN_non, kIsN_bl, kIsN_int, kIsN_str, kIsN_lst, kIsN_tup, kIsN_obj, kEq_nn, String.reduceEq, decide_true, decide_false, Bool.or_false, Bool.false_or, Bool.true_or, Bool.or_true, Bool.and_true, Bool.true_and, Bool.and_false, Bool.false_and, Bool.not_true, Bool.not_false, reduceCtorEq,   List.map_cons, List.map_nil, List.cons_append, List.nil_append, List.length_cons, List.length_nil, Nat.reduceAdd, Nat.reduceSub, List.replicate_succ, List.replicate_zero, List.set_cons_zero, List.set_cons_succ, List.getElem?_cons_zero, List.getElem?_cons_succ])
local macro_rules | `(tactic| walk_at "wq") => `(tactic| first | walk_at "wq1" | skip)
abbrev s_Policy___init__ : Stmt := inClass (top 52) 0
theorem sc_Policy___init__ : FnScope ["self", "cards", "conditions", "name", "kind", "issuers", "condition"] ["self", "cards", "conditions"] (defScope s_Policy___init__) := ⟨rfl, rfl, rfl, by decide +kernel, rfl, by decide +kernel, by decide +kernel⟩
abbrev s_Policy___eq__ : Stmt := inClass (top 52) 1
theorem sc_Policy___eq__ : FnScope ["self", "other"] ["self", "other"] (defScope s_Policy___eq__) := ⟨rfl, rfl, rfl, by decide +kernel, rfl, by decide +kernel, by decide +kernel⟩
abbrev s_Question___init__ : Stmt := inClass (top 26) 0
theorem sc_Question___init__ : FnScope ["self", "group", "kinds", "policy", "rows", "counting", "row"] ["self", "group", "kinds", "policy", "rows"] (defScope s_Question___init__) := ⟨rfl, rfl, rfl, by decide +kernel, rfl, by decide +kernel, by decide +kernel⟩
structure Cd where
  nm : Str
  kn : Str
  is : List Str
def cdD (c : Cd) : Dat := .tup [.str c.nm, .str c.kn, .tup (c.is.map .str)]
def poO (cs : List Cd) : Dat := .obj 8 [.tup (cs.map cdD), .tup []]
/-- a row of a question -/
abbrev Rw := Str × Int × Int
def rwD (r : Rw) : Dat := .tup [.str r.1, .int r.2.1, .int r.2.2]
def quO (g : Dat) (ks po : Dat) (rs : List (List Rw)) : Dat := .obj 9 [g, ks, po, .tup (rs.map fun r => .tup (r.map rwD))]
section
variable {P : Program} {w : World} {K : PySem.W.Frag} {mg : Str → Option Value} {base : Heap} {ca : Nat → Addr}
def aspIssI : ASpI := fun ds P => ∃ (n g : Dat) (ks : List Dat), ds = [n, g, .lst ks] ∧ P [n, g, .tup ks, .lst [], .lst []]
theorem ok_iss_init0 {f : Addr} {fd : FuncData} (F : Fun K "__init__" "Issuer.__init__" s_Issuer___init__ f fd) (T5 : IsT K (ca 5)) (B : Blt mg) : FnOk P w K mg base CX0 1 f fd ["self", "name", "group", "kinds"] (toSpI K ca 5 aspIssI) := by
  refine F.ok sc_Issuer___init__ (fun vs H Q E h => sp_lenI (n := 3) (fun ds P a => by obtain ⟨_, _, _, rfl, _⟩ := a; rfl) h) (fun cdv A outer s H vs Q E hr h => ⟨_, (pss_cons (ps_fld (pv 0) (pv 1) rfl)
      (pss_cons (ps_fld (pv 0) (pv 2) rfl)
      (pss_cons (ps_fld (pv 0) (pe_callTy (ktupF (K := K) rfl) (by rfl) B.tuple bt_tuple (pa_cons (pv 3) pa_nil)) rfl)
      (pss_cons (ps_fld (pv 0) (pe_lst pa_nil) rfl)
      (pss_cons (ps_fld (pv 0) (pe_lst pa_nil) rfl) pss_nil))))),
    fn_init h (fun po => (i_cons T5.cl T5.n_name (k := 0) rfl (by decide) (by decide) (fun _ => a_var) (i_cons T5.cl T5.n_group (k := 1) rfl (by decide) (by decide) (fun _ => a_var) (i_cons T5.cl T5.n_kinds (k := 2) rfl (by decide) (by decide) (fun _ => (a_b1 u_tupOf (a_pk a_var))) (i_cons T5.cl T5.n_book (k := 3) rfl (by decide) (by decide) (fun _ => (a_fz (a_lst a_nil))) (i_cons T5.cl T5.n__requests (k := 4) rfl (by decide) (by decide) (fun _ => (a_fz (a_lst a_nil))) i_nil)))))) (fun ds P a => by obtain ⟨_, _, _, rfl, _⟩ := a; exact Nat.le_of_ble_eq_true rfl) ?_⟩)
  rintro ds P ⟨n, g, ks, rfl, hp⟩
  walk_at "dw"
  exact hp
def aspNo : ASp := fun _ _ => False
def aspPolI : ASpI := fun ds P => ∃ cs : List Cd, ds = [.lst (cs.map cdD), .lst []] ∧ cs.length ≤ 1000 ∧ P [.tup (cs.map cdD), .tup []]
theorem ok_pol_init {f : Addr} {fd : FuncData} (F : Fun K "__init__" "Policy.__init__" s_Policy___init__ f fd) (T8 : PoT K (ca 8)) (B : Blt mg) (C_kept_policy : C8.Cal P w K mg base 1 "kept_policy" (toSp K ca aspNo) []) : FnOk P w K mg base CX0 2 f fd ["self", "cards", "conditions"] (toSpI K ca 8 aspPolI) := by
  refine F.ok sc_Policy___init__ (fun vs H Q E h => sp_lenI (n := 2) (fun ds P a => by obtain ⟨_, rfl, _⟩ := a; rfl) h) (fun cdv A outer s H vs Q E hr h => ⟨_, (pss_cons (ps_fld (pv 0) (pe_callTy (ktupF (K := K) rfl) (by rfl) B.tuple bt_tuple (pa_cons (pe_lc (own := [("name", 3), ("kind", 4), ("issuers", 5)]) (tt := tYes) rfl sc_Policy___init__.nd (kpil (K := K) rfl (pv 1)) (blkOk_by (N := ["self", "cards", "conditions", "name", "kind", "issuers", "condition"]) (sc := defScope s_Policy___init__) (by decide +kernel))
        (fun _ _ _ _ _ => (kgtup (K := K) (n := 3) rfl rfl (pgs_cons (pg_name (i := 3) sc_Policy___init__.nd rfl (.inl rfl)) (pgs_cons (pg_name (i := 4) sc_Policy___init__.nd rfl (.inl rfl)) (pgs_cons (pg_name (i := 5) sc_Policy___init__.nd rfl (.inl rfl)) pgs_nil))))) (fun _ _ _ _ _ => pts_nil)
        (fun _ _ _ _ _ => (pe_tupF (pa_cons (pv 3) (pa_cons (pv 4) (pa_cons (pe_callTy (ktupF (K := K) rfl) (by rfl) B.tuple bt_tuple (pa_cons (pv 5) pa_nil)) pa_nil)))))) pa_nil)) rfl)
      (pss_cons (ps_fld (pv 0) (pe_callTy (ktupF (K := K) rfl) (by rfl) B.tuple bt_tuple (pa_cons (pe_lc (own := [("condition", 6)]) (g := gName 6) (tt := tYes) rfl sc_Policy___init__.nd (kpil (K := K) rfl (pv 2)) (blkOk_by (N := ["self", "cards", "conditions", "name", "kind", "issuers", "condition"]) (sc := defScope s_Policy___init__) (by decide +kernel))
        (fun _ _ _ _ _ => (pg_name (i := 6) sc_Policy___init__.nd rfl (.inl rfl))) (fun _ _ _ _ _ => pts_nil)
        (fun _ _ _ _ _ => (C8.pe_c C_kept_policy hr (by omega) rfl (pa_cons (pv 6) pa_nil)))) pa_nil)) rfl) pss_nil)),
    fn_init h (fun po => (i_cons T8.cl T8.n_cards (k := 0) rfl (by decide) (by decide) (fun _ => (a_b1 u_tupOf (a_pk (a_fz (a_lc (vs := [3, 4, 5]) (i_list a_var) (g_tup (g_cons (g_name (by decide)) (g_cons (g_name (by decide)) (g_cons (g_name (by decide)) g_nil tot_name) tot_name) tot_name)) a_yes (a_tup (a_cons a_var (a_cons a_var (a_cons (a_b1 u_tupOf (a_pk a_var)) a_nil))))))))) (i_cons T8.cl T8.n_conditions (k := 1) rfl (by decide) (by decide) (fun _ => (a_b1 u_tupOf (a_pk (a_fz (a_lc (vs := [6]) (i_list a_var) (g_name (by decide)) a_yes (a_call (a_cons a_var a_nil))))))) i_nil))) (fun ds P a => by obtain ⟨_, rfl, _⟩ := a; exact Nat.le_of_ble_eq_true rfl) ?_⟩)
  rintro ds P ⟨cs, rfl, hl, hp⟩
  walk_at "dw"
  refine ⟨by rw [List.length_map]; omega, ?_⟩
  refine lcA_mapL (g := cdD) (fun c hc Q hQ => ?_) ?_
  · unfold cdD
    walk_at "dw"
    exact hQ
  walk_at "dw"
  exact ⟨Nat.zero_le _, hp⟩
def CdOk (c : Cd) : Prop := PyData.strOk c.nm = true ∧ PyData.strOk c.kn = true ∧ ∀ s ∈ c.is, PyData.strOk s = true
theorem okE_cd {c : Cd} (h : CdOk c) : okE 63 (cdD c) := by
  refine (okE_tup (n := 5) fun d hd => ?_).up (Nat.le_of_ble_eq_true rfl)
  simp only [List.mem_cons, List.mem_nil_iff, or_false] at hd
  rcases hd with rfl | rfl | rfl
  · exact okE_str h.1 _
  · exact okE_str h.2.1 _
  · exact (okE_tup (n := 2) (okE_maps fun s hs => okE_str (h.2.2 s hs) _)).up (Nat.le_of_ble_eq_true rfl)
def aspPoEq : ASp := fun ds P => ∃ cs : List Cd, ds = [poO cs, poO cs] ∧ (∀ c ∈ cs, CdOk c) ∧ P (.bl true)
theorem ok_pol_eq {f : Addr} {fd : FuncData} (F : Fun K "__eq__" "Policy.__eq__" s_Policy___eq__ f fd) (T8 : PoT K (ca 8)) (I_Policy : IsiC K (ca 8)) (G_Policy : mg "Policy" = some (.ref (ca 8))) (B : Blt mg) : FnOk P w K mg base CX0 1 f fd ["self", "other"] (toSp K ca aspPoEq) := by
  refine F.ok sc_Policy___eq__ (fun vs H Q E h => sp_len (n := 2) (fun ds P a => by obtain ⟨_, rfl, _⟩ := a; rfl) h) (fun cdv A outer s H vs Q E hr h => ⟨_, (pss_one (ps_ret (pe_and (pe_callB (kisi (K := K) rfl) (by rfl) B.isinstance bt_isinstance (pa_cons (pv 1) (pa_cons (pe_glob (v := .ref _) rfl G_Policy rfl) pa_nil))) (pe_and (pe_cmpR (keqd (K := K) rfl hr.units) (kfld (K := K) rfl (pv 0)) (kfld (K := K) rfl (pv 1)) (nomark _)) (pe_one (pe_cmpR (keqd (K := K) rfl hr.units) (kfld (K := K) rfl (pv 0)) (kfld (K := K) rfl (pv 1)) (nomark _))))))),
    fn_run h (fun po => (s_ret fun _ => (a_andV (a_isO I_Policy a_var) (a_andV (a_op pst_pk rok_eqD (a_pk (a_fld T8.cl T8.n_cards (c := 8) (i := 0) rfl a_var)) (a_pk (a_fld T8.cl T8.n_cards (c := 8) (i := 0) rfl a_var))) (a_op pst_pk rok_eqD (a_pk (a_fld T8.cl T8.n_conditions (c := 8) (i := 1) rfl a_var)) (a_pk (a_fld T8.cl T8.n_conditions (c := 8) (i := 1) rfl a_var))))))) (fun ds P a => by obtain ⟨_, rfl, _⟩ := a; exact Nat.le_of_ble_eq_true rfl) ?_⟩)
  rintro ds P ⟨cs, rfl, h, hp⟩
  unfold poO
  have o : okE 64 (.tup (cs.map cdD)) := okE_tup (okE_maps fun c hc => okE_cd (h c hc))
  walk_at "dw"
  refine ⟨o, o, fun b hb => ?_⟩
  obtain rfl : b = true := hb.mpr rfl
  walk_at "dw"
  refine ⟨okE_tup (n := 63) (fun d hd => nomatch hd), okE_tup (n := 63) (fun d hd => nomatch hd), fun b hb => ?_⟩
  obtain rfl : b = true := hb.mpr rfl
  exact hp
def aspQuI : ASpI := fun ds P => ∃ (g po : Dat) (ks : List Dat) (rs : List (List Rw)), ds = [g, .lst ks, po, .lst (rs.map fun r => .lst (r.map rwD))] ∧ rs.length ≤ 1000 ∧ (∀ r ∈ rs, r.length ≤ 1000) ∧ P [g, .tup ks, po, .tup (rs.map fun r => .tup (r.map rwD))]
theorem ok_qu_init {f : Addr} {fd : FuncData} (F : Fun K "__init__" "Question.__init__" s_Question___init__ f fd) (T9 : QuT K (ca 9)) (B : Blt mg) : FnOk P w K mg base CX0 1 f fd ["self", "group", "kinds", "policy", "rows"] (toSpI K ca 9 aspQuI) := by
  refine F.ok sc_Question___init__ (fun vs H Q E h => sp_lenI (n := 4) (fun ds P a => by obtain ⟨_, _, _, _, rfl, _⟩ := a; rfl) h) (fun cdv A outer s H vs Q E hr h => ⟨_, (pss_cons (ps_fld (pv 0) (pv 1) rfl)
      (pss_cons (ps_fld (pv 0) (pe_callTy (ktupF (K := K) rfl) (by rfl) B.tuple bt_tuple (pa_cons (pv 2) pa_nil)) rfl)
      (pss_cons (ps_fld (pv 0) (pv 3) rfl)
      (pss_cons (ps_fld (pv 0) (pe_callTy (ktupF (K := K) rfl) (by rfl) B.tuple bt_tuple (pa_cons (pe_lc (own := [("counting", 5)]) (g := gName 5) (tt := tYes) rfl sc_Question___init__.nd (kpil (K := K) rfl (pv 4)) (blkOk_by (N := ["self", "group", "kinds", "policy", "rows", "counting", "row"]) (sc := defScope s_Question___init__) (by decide +kernel))
        (fun _ _ _ _ _ => (pg_name (i := 5) sc_Question___init__.nd rfl (.inl rfl))) (fun _ _ _ _ _ => pts_nil)
        (fun _ _ _ _ _ => (pe_callTy (ktupF (K := K) rfl) (by rfl) B.tuple bt_tuple (pa_cons (pe_lc (own := [("row", 6)]) (g := gName 6) (tt := tYes) rfl sc_Question___init__.nd (kpil (K := K) rfl (pv 5)) (blkOk_by (N := ["self", "group", "kinds", "policy", "rows", "counting", "row"]) (sc := { kind := .function, names := [(".0", .local), ("counting", .local), ("tuple", .globalImplicit)], isGenerator := false, isCoroutine := false }) (by decide +kernel))
        (fun _ _ _ _ _ => (pg_name (i := 6) sc_Question___init__.nd rfl (.inl rfl))) (fun _ _ _ _ _ => pts_nil)
        (fun _ _ _ _ _ => (pe_callTy (ktupF (K := K) rfl) (by rfl) B.tuple bt_tuple (pa_cons (pv 6) pa_nil)))) pa_nil)))) pa_nil)) rfl) pss_nil)))),
    fn_init h (fun po => (i_cons T9.cl T9.n_group (k := 0) rfl (by decide) (by decide) (fun _ => a_var) (i_cons T9.cl T9.n_kinds (k := 1) rfl (by decide) (by decide) (fun _ => (a_b1 u_tupOf (a_pk a_var))) (i_cons T9.cl T9.n_policy (k := 2) rfl (by decide) (by decide) (fun _ => a_var) (i_cons T9.cl T9.n_rows (k := 3) rfl (by decide) (by decide) (fun _ => (a_b1 u_tupOf (a_pk (a_fz (a_lc (vs := [5]) (i_list a_var) (g_name (by decide)) a_yes (a_b1 u_tupOf (a_pk (a_fz (a_lc (vs := [6]) (i_list a_var) (g_name (by decide)) a_yes (a_b1 u_tupOf (a_pk a_var))))))))))) i_nil))))) (fun ds P a => by obtain ⟨_, _, _, _, rfl, _⟩ := a; exact Nat.le_of_ble_eq_true rfl) ?_⟩)
  rintro ds P ⟨g, po, ks, rs, rfl, hl, hr, hp⟩
  walk_at "dw"
  refine ⟨by rw [List.length_map]; omega, ?_⟩
  refine lcA_mapL (g := fun r => Dat.tup (List.map rwD r)) (fun r hr' Q hQ => ?_) ?_
  · walk_at "dw"
    refine ⟨by rw [List.length_map]; have := hr r hr'; omega, ?_⟩
    refine lcA_mapL (g := rwD) (fun x hx Q2 hQ2 => ?_) ?_
    · unfold rwD
      walk_at "dw"
      exact hQ2
    · exact hQ
  · exact hp
end
abbrev s_Group_is_element : Stmt := inClass (top 36) 2
theorem sc_Group_is_element : FnScope ["self", "number"] ["self", "number"] (defScope s_Group_is_element) := ⟨rfl, rfl, rfl, by decide +kernel, rfl, by decide +kernel, by decide +kernel⟩
section
variable {P : Program} {w : World} {K : PySem.W.Frag} {mg : Str → Option Value} {base : Heap} {ca : Nat → Addr}
def aspRoot : ASp := fun ds P => ∃ p q n : Int, ds = [.int p, .int q, .int n] ∧ 0 < q ∧ 0 < p ∧ p < 2147483648 ∧ ∀ b : Bool, (b = true ↔ El p q n) → P (.bl b)
theorem sp_root {K : PySem.W.Frag} {ca : Nat → Addr} : ∀ vs H Q E, toSp K ca aspRoot vs H Q E → spRoot vs H Q E := fun vs H Q E ⟨po, F, ds, P, ok, r, ⟨p, q, n, ed, h1, h2, h3, hp⟩, k⟩ => by
  subst ed
  cases r with
  | cons a r =>
    cases r with
    | cons b r =>
      cases r with
      | cons c r =>
        cases r
        cases a
        cases b
        cases c
        exact ⟨p, q, n, rfl, h1, h2, h3, fun b hb => k _ F H _ (hp b hb) (.refl ok) (.bl b)⟩
def aspIsEl : ASp := fun ds P => ∃ (p q n : Int) (bs : List Int), ds = [grpD p q bs, .int n] ∧ (0 < q ∧ 0 < p ∧ p < 2147483648) ∧ ∀ b : Bool, (b = true ↔ El p q n) → P (.bl b)
theorem ok_is_element {f : Addr} {fd : FuncData} (F : Fun K "is_element" "Group.is_element" s_Group_is_element f fd) (T0 : GT K (ca 0)) (C__is_root : C8.Cal P w K mg base 2 "_is_root" (toSp K ca aspRoot) []) : FnOk P w K mg base CX0 3 f fd ["self", "number"] (toSp K ca aspIsEl) := by
  refine F.ok sc_Group_is_element (fun vs H Q E h => sp_len (n := 2) (fun ds P a => by obtain ⟨_, _, _, _, rfl, _⟩ := a; rfl) h) (fun cdv A outer s H vs Q E hr h => ⟨_, (pss_one (ps_ret (C8.pe_c C__is_root hr (by omega) rfl (pa_cons (kfld (K := K) rfl (pv 0)) (pa_cons (kfld (K := K) rfl (pv 0)) (pa_cons (pv 1) pa_nil)))))),
    fn_run h (fun po => (s_ret fun _ => (a_call (a_cons (a_fld T0.cl T0.n_p (c := 0) (i := 0) rfl a_var) (a_cons (a_fld T0.cl T0.n_q (c := 0) (i := 1) rfl a_var) (a_cons a_var a_nil)))))) (fun ds P a => by obtain ⟨_, _, _, _, rfl, _⟩ := a; exact Nat.le_of_ble_eq_true rfl) ?_⟩)
  rintro ds P ⟨p, q, n, bs, rfl, ⟨q0, p0, p1⟩, hp⟩
  unfold grpD
  walk_at "dd"
  exact ⟨p, q, n, rfl, q0, p0, p1, hp⟩
end
abbrev s_Issuer_ask : Stmt := inClass (top 48) 1
theorem sc_Issuer_ask : FnScope ["self", "kind", "element", "first", "found"] ["self", "kind", "element", "first"] (defScope s_Issuer_ask) := ⟨rfl, rfl, rfl, by decide +kernel, rfl, by decide +kernel, by decide +kernel⟩
abbrev s_Issuer_challenge : Stmt := inClass (top 48) 2
theorem sc_Issuer_challenge : FnScope ["self", "number", "challenge", "request"] ["self", "number", "challenge"] (defScope s_Issuer_challenge) := ⟨rfl, rfl, rfl, by decide +kernel, rfl, by decide +kernel, by decide +kernel⟩
abbrev s_Issuer_grant : Stmt := inClass (top 48) 3
theorem sc_Issuer_grant : FnScope ["self", "number", "replied", "values", "day", "request", "claim", "factors", "row"] ["self", "number", "replied", "values", "day"] (defScope s_Issuer_grant) := ⟨rfl, rfl, rfl, by decide +kernel, rfl, by decide +kernel, by decide +kernel⟩
abbrev s_Issuer_revoke : Stmt := inClass (top 48) 4
theorem sc_Issuer_revoke : FnScope ["self", "index", "day", "kind", "element", "granted", "revoked"] ["self", "index", "day"] (defScope s_Issuer_revoke) := ⟨rfl, rfl, rfl, by decide +kernel, rfl, by decide +kernel, by decide +kernel⟩
section
variable {P : Program} {w : World} {K : PySem.W.Frag} {mg : Str → Option Value} {base : Heap} {ca : Nat → Addr}
def bspAsk : BSp := fun ds M X P => ∃ (x bk rq : Addr) (n nm : Str) (e p q : Int) (bs ms : List Int) (ks : List Kd) (ra : List Addr), ds = [.cell x, .str nm, .int e, mvL ms] ∧ M x = some (.obj 5 (isL n p q bs ks bk rq)) ∧ M rq = some (.lst (ra.map .cell)) ∧ (ra.length ≤ 1000 ∧ 0 < q ∧ 0 < p ∧ p < 2147483648) ∧
  (ks.find? (gkB nm bs.length) = none → X 11 [.str "kind"] M) ∧ (∀ k, ks.find? (gkB nm bs.length) = some k → (¬ El p q e → X 11 [.str "element"] M) ∧ (El p q e → ∀ a, M a = none → P (.int (ra.length : Nat)) ((M.put a (some (.obj 4 (rqL ⟨k.1, k.2, e, ms, none, "asked"⟩)))).put rq (some (.lst ((ra ++ [a]).map .cell))))))
theorem ok_ask {f : Addr} {fd : FuncData} (F : Fun K "ask" "Issuer.ask" s_Issuer_ask f fd) (T0 : GT K (ca 0)) (T5 : IsT K (ca 5)) (B : Blt mg) (XM_BadRequest : XMk P w K mg base "BadRequest" (ca 11) "what") (MX__granted_kind : MetX P w K mg base 3 (ca 5) "_granted_kind" (toSp2 K ca bspGk)) (MX_Request : MakX P w K mg base 1 "Request" (ca 4) (toSpI2 K ca 4 bspReqI))
    (M_is_element : C8.Met P w K mg base 3 (ca 0) "is_element" (toSp K ca aspIsEl) []) : FnOk P w K mg base (L2.CX P w) 4 f fd ["self", "kind", "element", "first"] (toSp2 K ca bspAsk) := by
  refine F.okX sc_Issuer_ask (fun vs H Q E h => sp_len2 (n := 4) (fun ds M X P a => by obtain ⟨_, _, _, _, _, _, _, _, _, _, _, _, rfl, _⟩ := a; rfl) h) (fun cdv A outer s H vs Q E hr h => ⟨_, (pss_cons (ps_set (i := 4) sc_Issuer_ask.nd rfl (.inl rfl) (by exact (pe_mX MX__granted_kind (takes_of rfl rfl rfl rfl) hr (by omega) (pv 0) (pa_cons (pv 1) pa_nil))))
      (pss_cons (ps_if (pt_not (pt_val (C8.pe_mt M_is_element hr (by omega) (kfld (K := K) rfl (pv 0)) (pa_cons (pv 2) pa_nil)))) (pss_one (ps_raise rfl (takes_of rfl rfl rfl rfl) (pmk_x XM_BadRequest hr (by omega) rfl (pa_cons pe_str pa_nil)))) pss_nil)
      (pss_cons (ps_expr (pe_bm PySem.F.plainAttrs_list PySem.F.slot_list_append PySem.F.type_list_append mt_append (kfld (K := K) rfl (pv 0)) (pa_cons (by exact (pe_mkX MX_Request (takes_of rfl rfl rfl rfl) hr (by omega) rfl (pa_cons (pv 4) (pa_cons (pv 2) (pa_cons (pv 3) pa_nil))))) pa_nil)))
      (pss_one (ps_ret (pe_op op_sub (pe_callB (klen (K := K) rfl) (by rfl) B.len bt_len (pa_cons (kfld (K := K) rfl (pv 0)) pa_nil)) pe_int)))))),
    fn_run2 h (fun po => (z_seq (z_set fun _ => (b_methX (c := 5) (by decide) (b_up fun _ => a_var) (b_upA fun _ => (a_cons a_var a_nil))))
      (z_seq (z_if (fun _ => (b_upVT 3 fun _ => (a_not (a_tb (a_meth (by decide) (a_fld T5.cl T5.n_group (c := 5) (i := 1) rfl a_var) (a_cons a_var a_nil)))))) (z_raiseO rfl (fun _ => (b_upA fun _ => (a_cons a_str a_nil)))) z_next)
      (z_seq (z_appC (fun _ => (b_fldC (c := 5) (i := 4) T5.cl T5.n__requests rfl (b_up fun _ => a_var))) (fun _ => (b_make2 (b_upA fun _ => (a_cons a_var (a_cons a_var (a_cons a_var a_nil)))))))
      (z_ret fun _ => (b_upV 3 fun _ => (a_op pst_rv rok_I0 (a_b1 u_len (a_pk (a_fld T5.cl T5.n__requests (c := 5) (i := 4) rfl a_var))) a_int))))))) (fun ds M X P a => by obtain ⟨_, _, _, _, _, _, _, _, _, _, _, _, rfl, _⟩ := a; exact Nat.le_of_ble_eq_true rfl) ?_⟩)
  rintro ds M X P ⟨x, bk, rq, n, nm, e, p, q, bs, ms, ks, ra, rfl, hx, hq, ⟨l1, q0, p0, p1⟩, h1, h2⟩
  refine zseqG fun N hN => ?_
  walk_at "bw"
  rw [hx]
  walk_at "bw"
  refine ⟨x, bk, rq, n, nm, p, q, bs, ks, rfl, hx, fun k hk => ?_, h1⟩
  obtain ⟨h3, h4⟩ := h2 k hk
  subst hN
  refine zseqG fun N hN => ?_
  walk_at "bw"
  rw [vw_obj hx rfl]
  unfold isL grpD
  walk_at "bw"
  refine ⟨p, q, e, bs, rfl, ⟨q0, p0, p1⟩, fun b hb => ?_⟩
  cases b with
  | false => exact h3 fun z => absurd (hb.mpr z) (by decide)
  | true =>
    have h4 := h4 (hb.mp rfl)
    show N _ M
    subst hN
    refine zseqG fun N hN => ?_
    walk_at "bw"
    rw [hx]
    unfold isL
    walk_at "bw"
    rw [hq]
    walk_at "bw"
    intro a ha
    have na : rq ≠ a := fun z => by
      rw [← z, hq] at ha
      cases ha
    have nx : x ≠ a := fun z => by
      rw [← z, hx] at ha
      cases ha
    have nq : x ≠ rq := fun z => by
      rw [z, hq] at hx
      cases hx
    refine ⟨a, kdP k, .int e, mvL ms, rfl, Sto.put_s, rfl, ?_⟩
    rw [Sto.pp, Sto.put_n na, hq]
    walk_at "bw"
    refine ⟨by rw [List.length_map]; omega, ?_⟩
    subst hN
    have h5 := h4 a ha
    have ea : ra.map Dat.cell ++ [Dat.cell a] = (ra ++ [a]).map Dat.cell := by rw [List.map_append]; rfl
    rw [ea]
    have hx' : ((M.put a (some (.obj 4 [kdP k, .int e, mvL ms, .non, .str "asked"]))).put rq (some (.lst ((ra ++ [a]).map .cell)))) x = some (.obj 5 (isL n p q bs ks bk rq)) := by rw [Sto.put_n nq, Sto.put_n nx, hx]
    have hq' : ((M.put a (some (.obj 4 [kdP k, .int e, mvL ms, .non, .str "asked"]))).put rq (some (.lst ((ra ++ [a]).map .cell)))) rq = some (.lst ((ra ++ [a]).map .cell)) := Sto.put_s
    walk_at "bw"
    rw [vw_obj hx' rfl]
    unfold isL
    walk_at "bw"
    rw [vw_lst hq']
    walk_at "bw"
    rw [List.length_map, List.length_map, List.length_append, List.length_singleton, show ((ra.length + 1 : Nat) : Int) - 1 = (ra.length : Nat) by omega]
    exact h5
def bspChal : BSp := fun ds M X P => ∃ (x bk rq : Addr) (n : Str) (nb c p q : Int) (bs : List Int) (ks : List Kd) (ra : List Addr), ds = [.cell x, .int nb, .int c] ∧ M x = some (.obj 5 (isL n p q bs ks bk rq)) ∧ M rq = some (.lst (ra.map .cell)) ∧ (¬ (0 ≤ nb ∧ nb < ra.length) → X 11 [.str "number"] M) ∧
  (∀ (i : Nat) (a : Addr), nb = i → ra[i]? = some a → ∃ r, M a = some (.obj 4 (rqL r)) ∧ (r.st ≠ "asked" → X 13 [.str r.st] M) ∧ (r.st = "asked" → (¬ (0 ≤ c ∧ c < q) → X 11 [.str "challenge"] M) ∧ (0 ≤ c ∧ c < q → P .non (M.put a (some (.obj 4 (rqL { r with dr := some c, st := "challenged" })))))))
theorem ok_chal {f : Addr} {fd : FuncData} (F : Fun K "challenge" "Issuer.challenge" s_Issuer_challenge f fd) (T0 : GT K (ca 0)) (T4 : RqT K (ca 4)) (T5 : IsT K (ca 5)) (B : Blt mg) (G : GlI mg) (XM_BadRequest : XMk P w K mg base "BadRequest" (ca 11) "what") (MX__request_due : MetX P w K mg base 3 (ca 5) "_request_due" (toSp2 K ca bspDue)) : FnOk P w K mg base (L2.CX P w) 4 f fd ["self", "number", "challenge"] (toSp2 K ca bspChal) := by
  refine F.okX sc_Issuer_challenge (fun vs H Q E h => sp_len2 (n := 3) (fun ds M X P a => by obtain ⟨_, _, _, _, _, _, _, _, _, _, _, rfl, _⟩ := a; rfl) h) (fun cdv A outer s H vs Q E hr h => ⟨_, (pss_cons (ps_set (i := 3) sc_Issuer_challenge.nd rfl (.inl rfl) (by exact (pe_mX MX__request_due (takes_of rfl rfl rfl rfl) hr (by omega) (pv 0) (pa_cons (pv 1) (pa_cons (pe_gstr G.ASKED) pa_nil)))))
      (pss_cons (ps_if (pt_not (pt_chain op_le op_lt pe_int (pv 2) (kfld (K := K) rfl (kfld (K := K) rfl (pv 0))))) (pss_one (ps_raise rfl (takes_of rfl rfl rfl rfl) (pmk_x XM_BadRequest hr (by omega) rfl (pa_cons pe_str pa_nil)))) pss_nil)
      (pss_cons (ps_fld (pv 3) (pv 2) rfl)
      (pss_one (ps_fld (pv 3) (pe_gstr G.CHALLENGED) rfl))))),
    fn_run2 h (fun po => (z_seq (z_set fun _ => (b_methX (c := 5) (by decide) (b_up fun _ => a_var) (b_upA fun _ => (a_cons a_var (a_cons a_str a_nil)))))
      (z_seq (z_if (fun _ => (b_upVT 3 fun _ => (a_not (a_test (a_chain rok_B0 rok_B0 a_int a_var (a_fld T0.cl T0.n_q (c := 0) (i := 1) rfl (a_fld T5.cl T5.n_group (c := 5) (i := 1) rfl a_var))))))) (z_raiseO rfl (fun _ => (b_upA fun _ => (a_cons a_str a_nil)))) z_next)
      (z_seq (z_setF (c := 4) (i := 3) T4.cl T4.n_drawn rfl (by decide) (by decide) (fun _ => (b_up fun _ => a_var)) (fun _ => (b_up fun _ => a_var)))
      (z_setF (c := 4) (i := 4) T4.cl T4.n_state rfl (by decide) (by decide) (fun _ => (b_up fun _ => a_var)) (fun _ => (b_up fun _ => a_str))))))) (fun ds M X P a => by obtain ⟨_, _, _, _, _, _, _, _, _, _, _, rfl, _⟩ := a; exact Nat.le_of_ble_eq_true rfl) ?_⟩)
  rintro ds M X P ⟨x, bk, rq, n, nb, c, p, q, bs, ks, ra, rfl, hx, hq, h1, h2⟩
  refine zseqG fun N hN => ?_
  walk_at "bw"
  rw [hx]
  walk_at "bw"
  refine ⟨x, bk, rq, n, "asked", nb, p, q, bs, ks, ra, rfl, hx, hq, h1, fun i a e hi => ?_⟩
  obtain ⟨r, hr, h3, h4⟩ := h2 i a e hi
  refine ⟨r, hr, fun es => ?_, h3⟩
  obtain ⟨h5, h6⟩ := h4 es
  subst hN
  refine zseqG fun N hN => ?_
  walk_at "bw"
  rw [vw_obj hx rfl]
  unfold isL grpD
  walk_at "bw"
  refine twoD (fun c0 => ?_) (fun c0 => h5 fun z => c0 z.1)
  refine twoN (fun c1 => h5 fun z => c1 z.2) (fun c1 => ?_)
  have h6 := h6 ⟨c0, c1⟩
  subst hN
  walk_at "bv"
  rw [hr]
  unfold rqL
  walk_at "bv"
  refine ⟨Nat.le_of_ble_eq_true rfl, Nat.le_of_ble_eq_true rfl, ?_⟩
  rw [Sto.pp]
  exact h6
end
theorem ixN_nat {n : Nat} {j : Int} (h0 : 0 ≤ j) (h1 : j < (n : Int)) : ixN n j = some j.toNat := by
  unfold ixN
  rw [if_pos h0, if_pos (by omega)]
def ryL (rs : List Int) : Dat := .tup [.tup (rs.map .int), .tup []]
/-- does a reply fit -/
def Fit1 (p q : Int) (bs : List Int) (el : Int) (ms : List Int) (c : Int) (rs : List Int) : Prop := ∃ b0 b1 t, bs = b0 :: b1 :: t ∧ FitsC p q 1 (askS b0 b1 el, []) (ms, []) c (rs, [])
def rowOf (p q : Int) (bs : List Int) (r : Rq) (vs : List Int) (day : Int) : BRow := ⟨r.kn, prZ p q ((r.el, 1) :: (bs.drop 2).zip vs), day, none⟩
theorem vwRows {n : Nat} {M : Sto} {rows : List BRow} : (rows.map rowD).map (vwD n M) = rows.map rowD := by
  rw [List.map_map]
  exact List.map_congr_left fun r _ => vw_t
theorem ft_dr {o : Option Int} : ftD (drD o) = true := by cases o <;> rfl
theorem vw_dr {n : Nat} {M : Sto} {o : Option Int} : vwD n M (drD o) = drD o := by
  cases o with
  | none => exact vw_n
  | some c => exact vw_i
theorem ask_ok {b0 b1 e : Int} : ClOk 1 (askS b0 b1 e, []) := by
  refine ⟨⟨show [("r" : Str), ("s" : Str)].Nodup by decide +kernel, Nat.le_of_ble_eq_true rfl, Nat.le_of_ble_eq_true rfl, fun x hx => ?_, fun x hx f hf => ?_, ?_⟩, by decide, fun _ h => nomatch h⟩
  · obtain rfl := List.mem_singleton.mp hx
    exact Nat.le_of_ble_eq_true rfl
  · obtain rfl := List.mem_singleton.mp hx
    rcases List.mem_cons.mp hf with rfl | hf
    · exact List.mem_cons_self
    · obtain rfl := List.mem_singleton.mp hf
      exact List.mem_cons_of_mem _ List.mem_cons_self
  · show ∀ u ∈ [("r" : Str), ("s" : Str)], PyData.strOk u = true
    decide +kernel
section
variable {P : Program} {w : World} {K : PySem.W.Frag} {mg : Str → Option Value} {base : Heap} {ca : Nat → Addr}
def bspGrant : BSp := fun ds M X P => ∃ (x bk rq : Addr) (n : Str) (nb day p q : Int) (bs rs vs : List Int) (ks : List Kd) (ra : List Addr) (rows : List BRow), ds = [.cell x, .int nb, ryL rs, .lst (vs.map .int), .int day] ∧ M x = some (.obj 5 (isL n p q bs ks bk rq)) ∧ M rq = some (.lst (ra.map .cell)) ∧ M bk = some (.lst (rows.map rowD)) ∧
  (rows.length ≤ 1000 ∧ 0 < q ∧ 1 < p ∧ p < 2147483648 ∧ 2 ≤ bs.length ∧ bs.length ≤ 100 ∧ rs.length ≤ 100 ∧ vs.length ≤ 100) ∧ (¬ (0 ≤ nb ∧ nb < ra.length) → X 11 [.str "number"] M) ∧
  (∀ (i : Nat) (a : Addr), nb = i → ra[i]? = some a → ∃ r, M a = some (.obj 4 (rqL r)) ∧ (r.st ≠ "challenged" → X 13 [.str r.st] M) ∧ (r.st = "challenged" → (r.kf.length ≤ 100 ∧ r.ms.length ≤ 100) ∧ (mayH r.kf vs = false → X 11 [.str "values"] M) ∧ (mayH r.kf vs = true → ∃ c, r.dr = some c ∧
    (¬ Fit1 p q bs r.el r.ms c rs → X 11 [.str "reply"] (M.put a (some (.obj 4 (rqL { r with st := "refused" }))))) ∧ (Fit1 p q bs r.el r.ms c rs → P (.int (rows.length : Nat)) ((M.put a (some (.obj 4 (rqL { r with st := "granted" })))).put bk (some (.lst ((rows ++ [rowOf p q bs r vs day]).map rowD))))))))
theorem ok_grant {f : Addr} {fd : FuncData} (F : Fun K "grant" "Issuer.grant" s_Issuer_grant f fd) (T0 : GT K (ca 0)) (T3 : KdT K (ca 3)) (T4 : RqT K (ca 4)) (T5 : IsT K (ca 5)) (B : Blt mg) (G : GlI mg) (XM_BadRequest : XMk P w K mg base "BadRequest" (ca 11) "what") (MX__request_due : MetX P w K mg base 3 (ca 5) "_request_due" (toSp2 K ca bspDue))
    (C__may_have : C8.Cal P w K mg base 1 "_may_have" (toSp K ca aspMay) []) (C_asking : C8.Cal P w K mg base 4 "asking" (toSp K ca aspAsking) []) (C_fits : C8.Cal P w K mg base 8 "fits" (toSp K ca (aspFits 1)) []) (M_product : C8.Met P w K mg base 3 (ca 0) "product" (toSp K ca aspProduct) []) : FnOk P w K mg base (L2.CX P w) 9 f fd ["self", "number", "replied", "values", "day"] (toSp2 K ca bspGrant) := by
  refine F.okX sc_Issuer_grant (fun vs H Q E h => sp_len2 (n := 5) (fun ds M X P a => by obtain ⟨_, _, _, _, _, _, _, _, _, _, _, _, _, _, rfl, _⟩ := a; rfl) h) (fun cdv A outer s H vs Q E hr h => ⟨_, (pss_cons (ps_set (i := 5) sc_Issuer_grant.nd rfl (.inl rfl) (by exact (pe_mX MX__request_due (takes_of rfl rfl rfl rfl) hr (by omega) (pv 0) (pa_cons (pv 1) (pa_cons (pe_gstr G.CHALLENGED) pa_nil)))))
      (pss_cons (ps_if (pt_not (pt_val (C8.pe_c C__may_have hr (by omega) rfl (pa_cons (kfld (K := K) rfl (pv 5)) (pa_cons (pv 3) pa_nil))))) (pss_one (ps_raise rfl (takes_of rfl rfl rfl rfl) (pmk_x XM_BadRequest hr (by omega) rfl (pa_cons pe_str pa_nil)))) pss_nil)
      (pss_cons (ps_set (i := 6) sc_Issuer_grant.nd rfl (.inl rfl) (C8.pe_c C_asking hr (by omega) rfl (pa_cons (kfld (K := K) rfl (pv 0)) (pa_cons (kfld (K := K) rfl (pv 5)) pa_nil))))
      (pss_cons (ps_if (pt_not (pt_val (C8.pe_c C_fits hr (by omega) rfl (pa_cons (kfld (K := K) rfl (pv 0)) (pa_cons (pv 6) (pa_cons (kfld (K := K) rfl (pv 5)) (pa_cons (kfld (K := K) rfl (pv 5)) (pa_cons (pv 2) pa_nil)))))))) (pss_cons (ps_fld (pv 5) (pe_gstr G.REFUSED) rfl)
      (pss_one (ps_raise rfl (takes_of rfl rfl rfl rfl) (pmk_x XM_BadRequest hr (by omega) rfl (pa_cons pe_str pa_nil))))) pss_nil)
      (pss_cons (ps_fld (pv 5) (pe_gstr G.GRANTED) rfl)
      (pss_cons (ps_set (i := 7) sc_Issuer_grant.nd rfl (.inl rfl) (pe_listZipF true false (K := K) rfl rfl (by rfl) B.list (by rfl) B.zip (pa_cons (pe_slice (kslF (K := K) rfl) (kfld (K := K) rfl (kfld (K := K) rfl (pv 0))) (po_some pe_int) po_none) (pa_cons (pv 3) pa_nil))))
      (pss_cons (ps_set (i := 8) sc_Issuer_grant.nd rfl (.inl rfl) (C8.pe_mt M_product hr (by omega) (kfld (K := K) rfl (pv 0)) (pa_cons (pe_op op_cat (pe_lst (pa_cons (pe_tupF (pa_cons (kfld (K := K) rfl (pv 5)) (pa_cons pe_int pa_nil))) pa_nil)) (pv 7)) pa_nil)))
      (pss_cons (ps_expr (pe_bm PySem.F.plainAttrs_list PySem.F.slot_list_append PySem.F.type_list_append mt_append (kfld (K := K) rfl (pv 0)) (pa_cons (pe_tupF (pa_cons (kfld (K := K) rfl (kfld (K := K) rfl (pv 5))) (pa_cons (pv 8) (pa_cons (pv 4) (pa_cons pe_non pa_nil))))) pa_nil)))
      (pss_one (ps_ret (pe_op op_sub (pe_callB (klen (K := K) rfl) (by rfl) B.len bt_len (pa_cons (kfld (K := K) rfl (pv 0)) pa_nil)) pe_int))))))))))),
    fn_run2 h (fun po => (z_seq (z_set fun _ => (b_methX (c := 5) (by decide) (b_up fun _ => a_var) (b_upA fun _ => (a_cons a_var (a_cons a_str a_nil)))))
      (z_seq (z_if (fun _ => (b_upVT 3 fun _ => (a_not (a_tb (a_call (a_cons (a_fld T4.cl T4.n_kind (c := 4) (i := 0) rfl a_var) (a_cons a_var a_nil))))))) (z_raiseO rfl (fun _ => (b_upA fun _ => (a_cons a_str a_nil)))) z_next)
      (z_seq (z_set fun _ => (b_call (b_cons (b_fldC (c := 5) (i := 1) T5.cl T5.n_group rfl (b_up fun _ => a_var)) (b_cons (b_fldC (c := 4) (i := 1) T4.cl T4.n_element rfl (b_up fun _ => a_var)) b_nil))))
      (z_seq (z_if (fun _ => (b_upVT 3 fun _ => (a_not (a_tb (a_call (a_cons (a_fld T5.cl T5.n_group (c := 5) (i := 1) rfl a_var) (a_cons a_var (a_cons (a_fld T4.cl T4.n_first (c := 4) (i := 2) rfl a_var) (a_cons (a_fld T4.cl T4.n_drawn (c := 4) (i := 3) rfl a_var) (a_cons a_var a_nil)))))))))) (z_seq (z_setF (c := 4) (i := 4) T4.cl T4.n_state rfl (by decide) (by decide) (fun _ => (b_up fun _ => a_var)) (fun _ => (b_up fun _ => a_str)))
      (z_raiseO rfl (fun _ => (b_upA fun _ => (a_cons a_str a_nil))))) z_next)
      (z_seq (z_setF (c := 4) (i := 4) T4.cl T4.n_state rfl (by decide) (by decide) (fun _ => (b_up fun _ => a_var)) (fun _ => (b_up fun _ => a_str)))
      (z_seq (z_set fun _ => (b_fz (b_upVF 3 fun _ => (a_listZip (a_cons (a_slT (a_fld T0.cl T0.n_bases (c := 0) (i := 2) rfl (a_fld T5.cl T5.n_group (c := 5) (i := 1) rfl a_var)) (ao_some a_int) ao_none) (a_cons a_var a_nil))))))
      (z_seq (z_set fun _ => (b_upV 3 fun _ => (a_meth (by decide) (a_fld T5.cl T5.n_group (c := 5) (i := 1) rfl a_var) (a_cons (a_fz (a_opF pst_pk rok_catL (a_pk (a_fz (a_lst (a_cons (a_tup (a_cons (a_fld T4.cl T4.n_element (c := 4) (i := 1) rfl a_var) (a_cons a_int a_nil))) a_nil)))) (a_pk a_var))) a_nil))))
      (z_seq (z_appC (fun _ => (b_fldC (c := 5) (i := 3) T5.cl T5.n_book rfl (b_up fun _ => a_var))) (fun _ => (b_upV 3 fun _ => (a_tup (a_cons (a_fld T3.cl T3.n_name (c := 3) (i := 0) rfl (a_fld T4.cl T4.n_kind (c := 4) (i := 0) rfl a_var)) (a_cons a_var (a_cons a_var (a_cons a_non a_nil))))))))
      (z_ret fun _ => (b_upV 3 fun _ => (a_op pst_rv rok_I0 (a_b1 u_len (a_pk (a_fld T5.cl T5.n_book (c := 5) (i := 3) rfl a_var))) a_int)))))))))))) (fun ds M X P a => by obtain ⟨_, _, _, _, _, _, _, _, _, _, _, _, _, _, rfl, _⟩ := a; exact Nat.le_of_ble_eq_true rfl) ?_⟩)
  rintro ds M X P ⟨x, bk, rq, n, nb, day, p, q, bs, rs, vs, ks, ra, rows, rfl, hx, hq, hb, ⟨l1, q0, p0, p1, b2, b3, l2, l3⟩, h1, h2⟩
  refine zseqG fun N hN => ?_
  walk_at "bw"
  rw [hx]
  walk_at "bw"
  refine ⟨x, bk, rq, n, "challenged", nb, p, q, bs, ks, ra, rfl, hx, hq, h1, fun i a e hi => ?_⟩
  obtain ⟨r, hr, h3, h4⟩ := h2 i a e hi
  refine ⟨r, hr, fun es => ?_, h3⟩
  obtain ⟨⟨l4, l5⟩, h5, h6⟩ := h4 es
  subst hN
  refine zseqG fun N hN => ?_
  walk_at "bw"
  rw [vw_obj hr rfl]
  unfold rqL kdO
  walk_at "bw"
  refine ⟨r.kn, r.kf, vs, rfl, ⟨by omega, by omega⟩, ?_⟩
  walk_at "bw"
  cases em : mayH r.kf vs with
  | false => exact h5 em
  | true =>
    obtain ⟨c, hc, h7, h8⟩ := h6 em
    obtain ⟨b0, b1, t, rfl⟩ : ∃ b0 b1 t, bs = b0 :: b1 :: t := by
      match bs, b2 with
      | b0 :: b1 :: t, _ => exact ⟨b0, b1, t, rfl⟩
    show N _ M
    subst hN
    refine zseqG fun N hN => ?_
    walk_at "bw"
    rw [hx]
    unfold isL
    walk_at "bw"
    rw [hr]
    unfold rqL
    walk_at "bw"
    refine ⟨p, q, r.el, b0, b1, t, rfl, ?_⟩
    rw [clO_s]
    subst hN
    refine zseqG fun N hN => ?_
    walk_at "bw"
    rw [vw_obj hx rfl, vw_obj hr rfl]
    unfold isL rqL grpD mvL ryL
    walk_at "bw"
    rw [hc]
    show aspFits 1 [_, _, _, vwD 2 M (.int c), _] _
    rw [vw_i]
    refine ⟨p, q, c, b0 :: b1 :: t, (askS b0 b1 r.el, []), (r.ms, []), (rs, []), rfl, ⟨by omega, by omega, by omega⟩, ask_ok, ⟨by omega, by decide, fun _ h => nomatch h⟩, ⟨by omega, by decide, fun _ h => nomatch h⟩, fun b hb' => ?_⟩
    cases b with
    | false =>
      walk_at "bv"
      rw [hr]
      unfold rqL
      walk_at "bv"
      refine ⟨Nat.le_of_ble_eq_true rfl, h7 fun ⟨c0, c1, t', e1, e2⟩ => ?_⟩
      cases e1
      exact absurd (hb'.mpr e2) (by decide)
    | true =>
      have h8 := h8 ⟨b0, b1, t, rfl, hb'.mp rfl⟩
      show N _ M
      subst hN
      refine zseqG fun N hN => ?_
      walk_at "bw"
      rw [hr]
      unfold rqL
      walk_at "bw"
      refine ⟨Nat.le_of_ble_eq_true rfl, ?_⟩
      have eS : putN [kdO r.kn r.kf, Dat.int r.el, mvL r.ms, drD r.dr, Dat.str r.st] 4 (Dat.str "granted") = rqL { r with st := "granted" } := rfl
      rw [eS]
      have nax : x ≠ a := fun z => by
        rw [z, hr] at hx
        cases hx
      have nab : bk ≠ a := fun z => by
        rw [z, hr] at hb
        cases hb
      have nxb : x ≠ bk := fun z => by
        rw [z, hb] at hx
        cases hx
      have hx1 : (M.put a (some (.obj 4 (rqL { r with st := "granted" })))) x = some (.obj 5 (isL n p q (b0 :: b1 :: t) ks bk rq)) := by rw [Sto.put_n nax, hx]
      have hb1 : (M.put a (some (.obj 4 (rqL { r with st := "granted" })))) bk = some (.lst (rows.map rowD)) := by rw [Sto.put_n nab, hb]
      have hr1 : (M.put a (some (.obj 4 (rqL { r with st := "granted" })))) a = some (.obj 4 (rqL { r with st := "granted" })) := Sto.put_s
      generalize M.put a (some (.obj 4 (rqL { r with st := "granted" }))) = M1 at hx1 hb1 hr1 h8 ⊢
      subst hN
      refine zseqG fun N hN => ?_
      walk_at "bw"
      rw [vw_obj hx1 rfl]
      unfold isL grpD
      walk_at "bw"
      have ef : zipD (cutD (Dat.int b0 :: Dat.int b1 :: t.map Dat.int) (some 2) none) (vs.map Dat.int) = (t.zip vs).map prT := by
        have e1 : cutD (Dat.int b0 :: Dat.int b1 :: t.map Dat.int) (some 2) none = t.map Dat.int := cut_from (a := 2)
        rw [e1, zipD_map]
        rfl
      rw [ef]
      refine ⟨ftAll_of fun d hd => ?_, ?_⟩
      · obtain ⟨z, _, rfl⟩ := List.mem_map.mp hd
        rfl
      subst hN
      refine zseqG fun N hN => ?_
      walk_at "bw"
      rw [vw_obj hx1 rfl, vw_obj hr1 rfl]
      unfold isL grpD rqL
      walk_at "bw"
      refine ⟨by rw [List.length_map, List.length_zip]; omega, p, q, b0 :: b1 :: t, (r.el, 1) :: t.zip vs, rfl, by omega, by omega, by omega, ?_⟩
      refine ⟨rfl, ?_⟩
      subst hN
      refine zseqG fun N hN => ?_
      walk_at "bw"
      rw [hx1]
      unfold isL
      walk_at "bw"
      rw [hb1]
      walk_at "bw"
      rw [vw_obj hr1 rfl]
      unfold rqL kdO
      walk_at "bw"
      refine ⟨by rw [List.length_map]; omega, ?_⟩
      have er : rows.map rowD ++ [Dat.tup [Dat.str r.kn, Dat.int (prZ p q ((r.el, 1) :: t.zip vs)), Dat.int day, Dat.non]] = (rows ++ [rowOf p q (b0 :: b1 :: t) r vs day]).map rowD := by rw [List.map_append]; rfl
      rw [er]
      have hx2 : (M1.put bk (some (.lst ((rows ++ [rowOf p q (b0 :: b1 :: t) r vs day]).map rowD)))) x = some (.obj 5 (isL n p q (b0 :: b1 :: t) ks bk rq)) := by rw [Sto.put_n nxb, hx1]
      have hb2 : (M1.put bk (some (.lst ((rows ++ [rowOf p q (b0 :: b1 :: t) r vs day]).map rowD)))) bk = some (.lst ((rows ++ [rowOf p q (b0 :: b1 :: t) r vs day]).map rowD)) := Sto.put_s
      generalize M1.put bk (some (.lst ((rows ++ [rowOf p q (b0 :: b1 :: t) r vs day]).map rowD))) = M2 at hx2 hb2 h8 ⊢
      subst hN
      walk_at "bw"
      rw [vw_obj hx2 rfl]
      unfold isL
      walk_at "bw"
      rw [vw_lst hb2]
      walk_at "bw"
      rw [List.length_map, List.length_map, List.length_append, List.length_singleton, show ((rows.length + 1 : Nat) : Int) - 1 = (rows.length : Nat) by omega]
      exact h8
def bspRevoke : BSp := fun ds M X P => ∃ (x bk rq : Addr) (n : Str) (ix day p q : Int) (bs : List Int) (ks : List Kd) (rows : List BRow), ds = [.cell x, .int ix, .int day] ∧ M x = some (.obj 5 (isL n p q bs ks bk rq)) ∧ M bk = some (.lst (rows.map rowD)) ∧ rows.length ≤ 1000 ∧ (¬ (0 ≤ ix ∧ ix < rows.length) → X 11 [.str "row"] M) ∧
  (∀ (i : Nat) r, ix = i → rows[i]? = some r → (r.rev ≠ none → X 11 [.str "row"] M) ∧ (r.rev = none → P .non (M.put bk (some (.lst ((rows.set i { r with rev := some day }).map rowD))))))
theorem ok_revoke {f : Addr} {fd : FuncData} (F : Fun K "revoke" "Issuer.revoke" s_Issuer_revoke f fd) (T5 : IsT K (ca 5)) (B : Blt mg) (XM_BadRequest : XMk P w K mg base "BadRequest" (ca 11) "what") : FnOk P w K mg base (L2.CX P w) 3 f fd ["self", "index", "day"] (toSp2 K ca bspRevoke) := by
  refine F.okX sc_Issuer_revoke (fun vs H Q E h => sp_len2 (n := 3) (fun ds M X P a => by obtain ⟨_, _, _, _, _, _, _, _, _, _, _, rfl, _⟩ := a; rfl) h) (fun cdv A outer s H vs Q E hr h => ⟨_, (pss_cons (ps_if (pt_not (pt_chain op_le op_lt pe_int (pv 1) (pe_callB (klen (K := K) rfl) (by rfl) B.len bt_len (pa_cons (kfld (K := K) rfl (pv 0)) pa_nil)))) (pss_one (ps_raise rfl (takes_of rfl rfl rfl rfl) (pmk_x XM_BadRequest hr (by omega) rfl (pa_cons pe_str pa_nil)))) pss_nil)
      (pss_cons (ps_asg (pe_ix (kixs (K := K) rfl) (kfld (K := K) rfl (pv 0)) (pv 1) (fun _ _ => rfl)) (kgtup (K := K) (n := 4) rfl rfl (pgs_cons (pg_name (i := 3) sc_Issuer_revoke.nd rfl (.inl rfl)) (pgs_cons (pg_name (i := 4) sc_Issuer_revoke.nd rfl (.inl rfl)) (pgs_cons (pg_name (i := 5) sc_Issuer_revoke.nd rfl (.inl rfl)) (pgs_cons (pg_name (i := 6) sc_Issuer_revoke.nd rfl (.inl rfl)) pgs_nil))))))
      (pss_cons (ps_if (pt_cmpR op_notN (pv 6) pe_non (nomark _)) (pss_one (ps_raise rfl (takes_of rfl rfl rfl rfl) (pmk_x XM_BadRequest hr (by omega) rfl (pa_cons pe_str pa_nil)))) pss_nil)
      (pss_one (ps_asg (pe_tupF (pa_cons (pv 3) (pa_cons (pv 4) (pa_cons (pv 5) (pa_cons (pv 2) pa_nil))))) (pg_sub (kfld (K := K) rfl (pv 0)) (pv 1) set_list)))))),
    fn_run2 h (fun po => (z_seq (z_if (fun _ => (b_upVT 3 fun _ => (a_not (a_test (a_chain rok_B0 rok_B0 a_int a_var (a_b1 u_len (a_pk (a_fld T5.cl T5.n_book (c := 5) (i := 3) rfl a_var)))))))) (z_raiseO rfl (fun _ => (b_upA fun _ => (a_cons a_str a_nil)))) z_next)
      (z_seq (z_asg (vs := [3, 4, 5, 6]) (fun _ => (b_upV 3 fun _ => (a_op pst_pk rok_ix (a_pk (a_fld T5.cl T5.n_book (c := 5) (i := 3) rfl a_var)) a_var))) (fun _ => (g_tup (g_cons (g_name (by decide)) (g_cons (g_name (by decide)) (g_cons (g_name (by decide)) (g_cons (g_name (by decide)) g_nil tot_name) tot_name) tot_name) tot_name))))
      (z_seq (z_if (fun _ => (b_upT fun _ => (a_test (a_op pst_rv rok_notN a_var a_non)))) (z_raiseO rfl (fun _ => (b_upA fun _ => (a_cons a_str a_nil)))) z_next)
      (z_putC (fun _ => (b_up fun _ => (a_tup (a_cons a_var (a_cons a_var (a_cons a_var (a_cons a_var a_nil))))))) (fun _ => (b_fldC (c := 5) (i := 3) T5.cl T5.n_book rfl (b_up fun _ => a_var))) (fun _ => (b_up fun _ => a_var))))))) (fun ds M X P a => by obtain ⟨_, _, _, _, _, _, _, _, _, _, _, rfl, _⟩ := a; exact Nat.le_of_ble_eq_true rfl) ?_⟩)
  rintro ds M X P ⟨x, bk, rq, n, ix, day, p, q, bs, ks, rows, rfl, hx, hb, l1, h1, h2⟩
  refine zseqG fun N hN => ?_
  walk_at "bw"
  rw [vw_obj hx rfl]
  unfold isL
  walk_at "bw"
  rw [vw_lst hb]
  walk_at "bw"
  rw [List.length_map, List.length_map]
  refine twoD (fun g0 => ?_) (fun g0 => h1 fun z => g0 z.1)
  refine twoN (fun g1 => h1 fun z => g1 z.2) (fun g1 => ?_)
  obtain ⟨i, rfl⟩ : ∃ i : Nat, ix = i := ⟨ix.toNat, by omega⟩
  have hi : rows[i]? = some rows[i] := List.getElem?_eq_getElem (by omega)
  obtain ⟨h3, h4⟩ := h2 i _ rfl hi
  generalize rows[i] = r at hi h3 h4
  subst hN
  refine zseqG fun N hN => ?_
  walk_at "bw"
  rw [vw_obj hx rfl]
  unfold isL
  walk_at "bw"
  rw [vw_lst hb]
  walk_at "bw"
  rw [vwRows]
  refine oa_at rfl hi ?_
  unfold rowD
  walk_at "bw"
  rw [ft_dr]
  refine ⟨rfl, ?_⟩
  subst hN
  refine zseqG fun N hN => ?_
  walk_at "bw"
  cases er : r.rev with
  | some c =>
    unfold drD
    walk_at "bw"
    exact h3 (by rw [er]; exact fun z => by cases z)
  | none =>
    have h4 := h4 er
    unfold drD
    walk_at "bw"
    subst hN
    walk_at "bw"
    rw [hx]
    unfold isL
    walk_at "bw"
    rw [hb]
    walk_at "bw"
    have li := (List.getElem?_eq_some_iff.mp hi).1
    refine ⟨i, by rw [List.length_map]; exact ixN_nat (by omega) (by omega), ?_⟩
    rw [List.map_set] at h4
    exact h4
end
abbrev s__law_commit : Stmt := top 62
theorem sc__law_commit : FnScope ["group", "exponents", "k"] ["group", "exponents"] (defScope s__law_commit) := ⟨rfl, rfl, rfl, by decide +kernel, rfl, by decide +kernel, by decide +kernel⟩
abbrev s__law_kinds : Stmt := top 65
theorem sc__law_kinds : FnScope ["pool", "most", "kinds", "k", "fields", "place"] ["pool", "most"] (defScope s__law_kinds) := ⟨rfl, rfl, rfl, by decide +kernel, rfl, by decide +kernel, by decide +kernel⟩
def kdT (k : Kd) : Dat := .tup [.str k.1, .tup (k.2.map fmD)]
/-- a request of the law's own: the program's, and its opening and tape -/
structure LR where
  r : Rq
  op : List Int
  tp : List Int
def issD (n : Str) (p q : Int) (bs : List Int) (ks : List Kd) (rows : List BRow) (ls : List LR) : Dat := .obj 5 [.str n, grpD p q bs, .tup (ks.map kdP), .lst (rows.map rowD), .lst (ls.map fun l => .obj 4 (rqL l.r))]
/-- what kinds the law makes -/
structure KsOk (ks : List Kd) : Prop where
  nm : ks.map (·.1) = [("person" : Str)] ∨ ks.map (·.1) = [("person" : Str), "club"]
  fs : ∀ k ∈ ks, k.2.length ≤ 4 ∧ ∀ f ∈ k.2, (f.1 = "a" ∨ f.1 = "b" ∨ f.1 = "c" ∨ f.1 = "d") ∧ 1 ≤ f.2 ∧ f.2 ≤ 16
theorem zip_get {bs es : List Int} (h : es.length ≤ bs.length) : (List.range es.length).map (fun i => prT (bs.getD i 0, es.getD i 0)) = (bs.zip es).map prT := by
  refine List.ext_getElem (by rw [List.length_map, List.length_range, List.length_map, List.length_zip]; omega) fun i h1 h2 => ?_
  rw [List.length_map, List.length_range] at h1
  rw [List.getElem_map, List.getElem_range, List.getElem_map, List.getElem_zip, List.getD_eq_getElem?_getD, List.getD_eq_getElem?_getD, List.getElem?_eq_getElem (show i < bs.length by omega), List.getElem?_eq_getElem h1]
  rfl
theorem abcd_at : ∀ i : Nat, i < 4 → ∃ c, atI (Str.ofString "abcd").cps.toList (0 + (i : Int)) = some c ∧ ((⟨#[c]⟩ : Str) = "a" ∨ (⟨#[c]⟩ : Str) = "b" ∨ (⟨#[c]⟩ : Str) = "c" ∨ (⟨#[c]⟩ : Str) = "d")
  | 0, _ => ⟨97, by decide +kernel, .inl (by decide +kernel)⟩
  | 1, _ => ⟨98, by decide +kernel, .inr (.inl (by decide +kernel))⟩
  | 2, _ => ⟨99, by decide +kernel, .inr (.inr (.inl (by decide +kernel)))⟩
  | 3, _ => ⟨100, by decide +kernel, .inr (.inr (.inr (by decide +kernel)))⟩
  | i + 4, h => absurd h (by omega)
def FdOk (f : Fld) : Prop := (f.1 = "a" ∨ f.1 = "b" ∨ f.1 = "c" ∨ f.1 = "d") ∧ 1 ≤ f.2 ∧ f.2 ≤ 16
theorem fds_of {α : Type} : ∀ {xs : List α} {ys : List Dat}, Paired (fun _ y => ∃ f : Fld, y = fmD f ∧ FdOk f) xs ys → ∃ fs : List Fld, ys = fs.map fmD ∧ fs.length = xs.length ∧ ∀ f ∈ fs, FdOk f
  | _, _, .nil => ⟨[], rfl, rfl, fun _ h => nomatch h⟩
  | _, _, .cons r t => by
    obtain ⟨f, rfl, hf⟩ := r
    obtain ⟨fs, rfl, hl, h⟩ := fds_of t
    refine ⟨f :: fs, rfl, congrArg (· + 1) hl, fun g hg => ?_⟩
    rcases List.mem_cons.mp hg with rfl | hg
    · exact hf
    · exact h g hg
section
variable {P : Program} {w : World} {K : PySem.W.Frag} {mg : Str → Option Value} {base : Heap} {ca : Nat → Addr}
def aspLCommitK (k : Bool) : ASp := fun ds P => ∃ (p q : Int) (bs es : List Int), ds = [lgD p q bs, sqD k (es.map .int)] ∧ 0 < q ∧ q < 2147483648 ∧ 1 < p ∧ p < 2147483648 ∧ es.length ≤ bs.length ∧ es.length ≤ 1000 ∧ P (.int (prZ p q (bs.zip es)))
def aspLCommit : ASp := fun ds P => ∃ k, aspLCommitK k ds P
theorem ok_law_commit {f : Addr} {fd : FuncData} (F : Fun K "_law_commit" "_law_commit" s__law_commit f fd) (B : Blt mg) (C__law_product : C8.Cal P w K mg base 3 "_law_product" (toSp K ca aspLProduct) []) : FnOk P w K mg base CX0 4 f fd ["group", "exponents"] (toSp K ca aspLCommit) := by
  refine F.ok sc__law_commit (fun vs H Q E h => by obtain ⟨k, h⟩ := sp_ex h; exact sp_len (n := 2) (fun ds P a => by obtain ⟨_, _, _, _, rfl, _⟩ := a; rfl) h) (fun cdv A outer s H vs Q E hr h => ?_)
  obtain ⟨k, h⟩ := sp_ex h
  refine ⟨_, (pss_one (ps_ret (C8.pe_c C__law_product hr (by omega) rfl (pa_cons (pv 0) (pa_cons (pe_lc (own := [("k", 2)]) (g := gName 2) (tt := tYes) rfl sc__law_commit.nd (pi_range1 rfl B.range (pa_cons (pe_callB (klen (K := K) rfl) (by rfl) B.len bt_len (pa_cons (pv 1) pa_nil)) pa_nil)) (blkOk_by (N := ["group", "exponents", "k"]) (sc := defScope s__law_commit) (by decide +kernel))
        (fun _ _ _ _ _ => (pg_name (i := 2) sc__law_commit.nd rfl (.inl rfl))) (fun _ _ _ _ _ => pts_nil)
        (fun _ _ _ _ _ => (pe_tupF (pa_cons (pe_ix (kixs (K := K) rfl) (pe_ix (kixs (K := K) rfl) (pv 0) pe_int (fun _ _ => rfl)) (pv 2) (fun _ _ => rfl)) (pa_cons (pe_ix (kixs (K := K) rfl) (pv 1) (pv 2) (fun _ _ => rfl)) pa_nil))))) pa_nil))))),
    fn_run h (fun po => (s_ret fun _ => (a_call (a_cons a_var (a_cons (a_fz (a_lc (vs := [2]) (i_ran1 (a_cons (a_b1 u_len (a_pk a_var)) a_nil)) (g_name (by decide)) a_yes (a_tup (a_cons (a_op pst_pk rok_ix (a_pk (a_op pst_pk rok_ix (a_pk a_var) a_int)) a_var) (a_cons (a_op pst_pk rok_ix (a_pk a_var) a_var) a_nil))))) a_nil))))) (fun ds P a => by obtain ⟨_, _, _, _, rfl, _⟩ := a; exact Nat.le_of_ble_eq_true rfl) ?_⟩
  rintro ds P ⟨p, q, bs, es, rfl, q0, q1, p0, p1, hl, hl2, hp⟩
  unfold lgD
  walk_at "ds"
  refine sQ_sq ?_
  rw [List.length_map]
  refine ⟨by omega, by omega, by rw [List.length_map, List.length_range]; omega, ?_⟩
  refine lcA_mapL (f := fun (i : Nat) => Dat.int (0 + (i : Int))) (g := fun i => prT (bs.getD i 0, es.getD i 0)) (fun i hi Q hQ => ?_) ?_
  · have hi' := List.mem_range.mp hi
    walk_at "ds"
    refine oa_at (Int.zero_add _) (getD_at (show i < bs.length by omega)) ?_
    refine ix_sq (Int.zero_add _) (getD_at (show i < es.length by omega)) ?_
    exact hQ
  · rw [show ((es.length : Nat) : Int).toNat = es.length by omega, zip_get hl]
    exact ⟨p, q, bs, bs.zip es, rfl, q0, q1, p0, p1, hp⟩
def aspLKinds : ASp := fun ds P => ds = [.pool, .int 16] ∧ ∀ ks, KsOk ks → P (.lst (ks.map kdT))
theorem ok_law_kinds {f : Addr} {fd : FuncData} (F : Fun K "_law_kinds" "_law_kinds" s__law_kinds f fd) (B : Blt mg) (C__law_draw : C8.Cal P w K mg base 1 "_law_draw" (toSp K ca aspDraw) []) : FnOk P w K mg base CX0 2 f fd ["pool", "most"] (toSp K ca aspLKinds) := by
  refine F.ok sc__law_kinds (fun vs H Q E h => sp_len (n := 2) (fun ds P a => by obtain ⟨rfl, _⟩ := a; rfl) h) (fun cdv A outer s H vs Q E hr h => ⟨_, (pss_cons (ps_set (i := 2) sc__law_kinds.nd rfl (.inl rfl) (pe_lst pa_nil))
      (pss_cons (ps_for PassesOwn.never rfl (pi_range1 rfl B.range (pa_cons (pe_op op_add pe_int (C8.pe_c C__law_draw hr (by omega) rfl (pa_cons (pv 0) (pa_cons pe_int pa_nil)))) pa_nil)) (pg_name (i := 3) sc__law_kinds.nd rfl (.inl rfl))
      (pss_cons (ps_setLc (i := 4) (own := [("place", 5)]) (g := gName 5) (tt := tYes) rfl sc__law_kinds.nd rfl rfl (sw_true rfl rfl rfl (by decide +kernel)) (pi_range1 rfl B.range (pa_cons (C8.pe_c C__law_draw hr (by omega) rfl (pa_cons (pv 0) (pa_cons pe_int pa_nil))) pa_nil)) (blkOk_by (N := ["pool", "most", "kinds", "k", "fields", "place"]) (sc := defScope s__law_kinds) (by decide +kernel))
        (fun _ _ _ _ _ => (pg_name (i := 5) sc__law_kinds.nd rfl (.inl rfl))) (fun _ _ _ _ _ => pts_nil)
        (fun _ _ _ _ _ => (pe_tupF (pa_cons (pe_ix ix_str pe_str (pv 5) (fun _ _ => rfl)) (pa_cons (pe_op op_add pe_int (C8.pe_c C__law_draw hr (by omega) rfl (pa_cons (pv 0) (pa_cons (pv 1) pa_nil)))) pa_nil)))))
      (pss_one (ps_expr (pe_bm PySem.F.plainAttrs_list PySem.F.slot_list_append PySem.F.type_list_append mt_append (pv 2) (pa_cons (pe_tupF (pa_cons (pe_ix (kixs (K := K) rfl) (pe_tupF (pa_cons pe_str (pa_cons pe_str pa_nil))) (pv 3) (fun _ _ => rfl)) (pa_cons (pe_callTy (ktupF (K := K) rfl) (by rfl) B.tuple bt_tuple (pa_cons (pv 4) pa_nil)) pa_nil))) pa_nil))))))
      (pss_one (ps_ret (pv 2))))),
    fn_run h (fun po => (s_seq (s_setO fun _ => (a_lst a_nil))
      (s_seq (s_for (vs := [3]) (fun _ => (i_ran1 (a_cons (a_op pst_rv rok_I0 a_int (a_call (a_cons a_var (a_cons a_int a_nil)))) a_nil))) (fun _ => (g_name (by decide)))
      (s_seq (s_set fun _ => (a_fz (a_lc (vs := [5]) (i_ran1 (a_cons (a_call (a_cons a_var (a_cons a_int a_nil))) a_nil)) (g_name (by decide)) a_yes (a_tup (a_cons (a_op pst_rv rok_ixS a_str a_var) (a_cons (a_op pst_rv rok_I0 a_int (a_call (a_cons a_var (a_cons a_var a_nil)))) a_nil))))))
      (s_app fun _ => (a_tup (a_cons (a_op pst_pk rok_ix (a_pk (a_tup (a_cons a_str (a_cons a_str a_nil)))) a_var) (a_cons (a_b1 u_tupOf (a_pk a_var)) a_nil))))))
      (s_fz (i := 2) (s_ret fun _ => a_var))))) (fun ds P a => by obtain ⟨rfl, _⟩ := a; exact Nat.le_of_ble_eq_true rfl) ?_⟩)
  rintro ds P ⟨rfl, hp⟩
  refine seqG fun N hN => ?_
  walk_at "ds"
  subst hN
  refine seqG fun N hN => ?_
  walk_at "ds"
  refine draw (by omega) (by omega) fun v v0 v1 => ?_
  walk_at "ds"
  refine ⟨by omega, by omega, ?_⟩
  refine forA_ran (fun i env => ∃ (ks : List Kd) (y3 y4 y5 : Sl), env = [.d .pool, .d (.int 16), .o (ks.map kdT), y3, y4, y5] ∧ ks.map (·.1) = [("person" : Str), "club"].take i ∧ ∀ k ∈ ks, k.2.length ≤ 4 ∧ ∀ f ∈ k.2, FdOk f) ⟨[], _, _, _, rfl, rfl, fun _ h => nomatch h⟩ ?_ ?_
  · rintro i env hi ⟨ks, y3, y4, y5, rfl, hn, hf⟩ N2 hN2
    refine seqG fun N3 hN3 => ?_
    walk_at "ds"
    refine draw (by omega) (by omega) fun u u0 u1 => ?_
    walk_at "ds"
    refine ⟨by omega, by omega, by rw [List.length_map, List.length_range]; omega, ?_⟩
    refine lcA_relL (f := fun (i : Nat) => Dat.int (0 + (i : Int))) (fun _ y => ∃ f : Fld, y = fmD f ∧ FdOk f) (fun j hj Q hQ => ?_) fun ys pr => ?_
    · have hj' := List.mem_range.mp hj
      walk_at "ds"
      obtain ⟨c, hc, hs⟩ := abcd_at j (by omega)
      refine ⟨by decide +kernel, c, hc, ?_⟩
      refine draw (by omega) (by omega) fun m m0 m1 => ?_
      walk_at "ds"
      exact hQ _ ⟨(⟨#[c]⟩, 1 + m), rfl, hs, by show 1 ≤ 1 + m; omega, by show 1 + m ≤ 16; omega⟩
    · obtain ⟨fs, rfl, hl, hfs⟩ := fds_of pr
      rw [List.length_range] at hl
      subst hN3
      walk_at "ds"
      have hi2 : i = 0 ∨ i = 1 := by omega
      have kl : ks.length = i := by
        have := congrArg List.length hn
        rw [List.length_map, List.length_take] at this
        rw [this]
        show min i 2 = i
        omega
      refine ⟨by rw [List.length_map]; omega, ?_⟩
      have key : ∀ nm : Str, [("person" : Str), "club"].take (i + 1) = [("person" : Str), "club"].take i ++ [nm] → N2 [Sl.d Dat.pool, Sl.d (Dat.int 16), Sl.o (List.map kdT ks ++ [Dat.tup [.str nm, Dat.tup (List.map fmD fs)]]), Sl.d (Dat.int (0 + ↑i)), Sl.d (Dat.lst (List.map fmD fs)), y5] := fun nm e => by
        refine hN2 _ ⟨ks ++ [(nm, fs)], _, _, _, by rw [List.map_append]; rfl, by rw [List.map_append, hn, e]; rfl, fun k hk => ?_⟩
        rcases List.mem_append.mp hk with hk | hk
        · exact hf k hk
        · obtain rfl := List.mem_singleton.mp hk
          exact ⟨by show fs.length ≤ 4; omega, hfs⟩
      rcases hi2 with rfl | rfl
      · exact key "person" rfl
      · exact key "club" rfl
  · rintro env ⟨ks, y3, y4, y5, rfl, hn, hf⟩
    subst hN
    walk_at "ds"
    have hv : v = 0 ∨ v = 1 := by omega
    refine hp ks ⟨?_, fun k hk => hf k hk⟩
    rcases hv with rfl | rfl
    · exact .inl hn
    · exact .inr hn
theorem rowIx0 {r : BRow} {P : Dat → Prop} : kIx (rowD r) (.int 0) P = P (.str r.kn) := rfl
theorem rowIx2 {r : BRow} {P : Dat → Prop} : kIx (rowD r) (.int 2) P = P (.int r.day) := rfl
theorem rowIx3 {r : BRow} {P : Dat → Prop} : kIx (rowD r) (.int 3) P = P (drD r.rev) := rfl
theorem side_two {b0 b1 : Int} {t rs : List Int} (hl : rs.length = 2) {p q : Int} (e : Int) : side p q ["r", "s"] rs (e, [(b0, "r"), (b1, "s")]) = prZ p q ((b0 :: b1 :: t).zip rs) := by
  match rs, hl with
  | [r0, r1], _ =>
    have h1 : look ["r", "s"] [r0, r1] "r" = r0 := if_pos rfl
    have h2 : look ["r", "s"] [r0, r1] "s" = r1 := by
      show (if ("r" : Str) = "s" then r0 else look ["s"] [r1] "s") = r1
      rw [if_neg (by rw [ofS_inj]; decide)]
      exact if_pos rfl
    show prZ p q [(b0, look ["r", "s"] [r0, r1] "r"), (b1, look ["r", "s"] [r0, r1] "s")] = prZ p q ((b0, r0) :: (b1, r1) :: t.zip [])
    rw [h1, h2, List.zip_nil_right]
end
structure NeM (P : Program) (w : World) (K : PySem.W.Frag) (mg : Str → Option Value) (base : Heap) (k : Nat) (C : Addr) (sp : Sp) : Prop where
  eq : EqM P w K mg base k C sp
  ne : PySem.W.findIn K (.ref C) "__ne__" = some (some (.builtin "object.__ne__"))
  mro : PySem.W.mroIn K C (.type "object") = some true
theorem op_neM {X : Cx} {n j : Nat} {C : Addr} {sp : Sp} (c : NeM X.prog X.w X.K X.mg X.base n C sp) (hr : Room j X.A) (hk : n + 1 ≤ j) : OpR X (compareOp .NotEq) (rNeO C sp E0) := by
  obtain ⟨⟨f, fd, ps, F, hs, hf, hb⟩, hne, hmr⟩ := c
  intro pins s σ H x y v u Q I rx ry hq
  obtain ⟨a, b, dx, dy, fs, gs, rfl, rfl, ha, hb', hsp⟩ := hq
  show wpAny (model X.prog X.w) X.A (richCompare .NotEq v u) (EP X pins σ Q) X.xe s
  cases rx
  cases ry
  obtain ⟨mA, J, _⟩ := ins_get I.hok ha
  obtain ⟨mB, J', _⟩ := ins_get I.hok hb'
  obtain ⟨od, J, _⟩ := J.look
  obtain ⟨od', J', _⟩ := J'.look
  have sb : L2.Sub X (n + 1) X.A := ⟨hr.mono hk, rfl⟩
  have sb1 := sb.in1
  refine ne_K I.kIn J J'.type hmr hne hs hf sb1.room.units0 ?_
  have e0 : Env0 X.prog X.w X.K X.mg X.base X.A.in1 X.stack s H := by
    have e := I.env0
    exact ⟨by rw [sb1.fr]; exact e.frames, e.mod, e.bs, e.bsz, e.funs, e.frf, e.hok, e.bare⟩
  have hl := F.len _ _ _ _ hsp
  have r2 : Vals [V.ref a, V.ref b] [Value.ref a, Value.ref b] := .cons rfl (.cons rfl .nil)
  refine wpAny_call (codeAny_mono (F.run X.A.in1 X.stack s H ⟨[.ref a, .ref b], []⟩ [.ref a, .ref b] [.ref a, .ref b] _ E0 sb1.room e0 (by
    have := hb s [.ref a, .ref b] I.kIn (by simpa using hl)
    simpa using this) r2 hsp) fun r s' hq => ?_)
  cases r with
  | error e => exact pass0 pins σ H s e s' I hq
  | ok fl =>
    cases fl with
    | ret w =>
      obtain ⟨z, H', I', rz, ⟨c, ez, ex⟩⟩ := I.after hq
      subst ez
      cases rz
      exact ⟨c, rfl, .bl (!c), H', I', rfl, ex⟩
    | next => exact False.elim hq
    | brk => exact False.elim hq
    | cont => exact False.elim hq
abbrev s_Group___eq__ : Stmt := inClass (top 36) 1
theorem sc_Group___eq__ : FnScope ["self", "other"] ["self", "other"] (defScope s_Group___eq__) := ⟨rfl, rfl, rfl, by decide +kernel, rfl, by decide +kernel, by decide +kernel⟩
section
variable {P : Program} {w : World} {K : PySem.W.Frag} {mg : Str → Option Value} {base : Heap} {ca : Nat → Addr}
def aspGrEq : ASp := fun ds P => ∃ (p q p' q' : Int) (bs bs' : List Int), ds = [grpD p q bs, grpD p' q' bs'] ∧ ∀ b : Bool, (b = true ↔ p = p' ∧ q = q' ∧ bs = bs') → P (.bl b)
theorem ok_group_eq {f : Addr} {fd : FuncData} (F : Fun K "__eq__" "Group.__eq__" s_Group___eq__ f fd) (T0 : GT K (ca 0)) (I_Group : IsiC K (ca 0)) (G_Group : mg "Group" = some (.ref (ca 0))) (B : Blt mg) : FnOk P w K mg base CX0 1 f fd ["self", "other"] (toSp K ca aspGrEq) := by
  refine F.ok sc_Group___eq__ (fun vs H Q E h => sp_len (n := 2) (fun ds P a => by obtain ⟨_, _, _, _, _, _, rfl, _⟩ := a; rfl) h) (fun cdv A outer s H vs Q E hr h => ⟨_, (pss_one (ps_ret (pe_and (pe_callB (kisi (K := K) rfl) (by rfl) B.isinstance bt_isinstance (pa_cons (pv 1) (pa_cons (pe_glob (v := .ref _) rfl G_Group rfl) pa_nil))) (pe_and (pe_cmpR op_eq (kfld (K := K) rfl (pv 0)) (kfld (K := K) rfl (pv 1)) (nomark _)) (pe_and (pe_cmpR op_eq (kfld (K := K) rfl (pv 0)) (kfld (K := K) rfl (pv 1)) (nomark _)) (pe_one (pe_cmpR (keqd (K := K) rfl hr.units) (kfld (K := K) rfl (pv 0)) (kfld (K := K) rfl (pv 1)) (nomark _)))))))),
    fn_run h (fun po => (s_ret fun _ => (a_andV (a_isO I_Group a_var) (a_andV (a_op pst_rv rok_eq (a_fld T0.cl T0.n_p (c := 0) (i := 0) rfl a_var) (a_fld T0.cl T0.n_p (c := 0) (i := 0) rfl a_var)) (a_andV (a_op pst_rv rok_eq (a_fld T0.cl T0.n_q (c := 0) (i := 1) rfl a_var) (a_fld T0.cl T0.n_q (c := 0) (i := 1) rfl a_var)) (a_op pst_pk rok_eqD (a_pk (a_fld T0.cl T0.n_bases (c := 0) (i := 2) rfl a_var)) (a_pk (a_fld T0.cl T0.n_bases (c := 0) (i := 2) rfl a_var)))))))) (fun ds P a => by obtain ⟨_, _, _, _, _, _, rfl, _⟩ := a; exact Nat.le_of_ble_eq_true rfl) ?_⟩)
  rintro ds P ⟨p, q, p', q', bs, bs', rfl, hp⟩
  unfold grpD
  walk_at "dd"
  refine twoD (fun e1 => ?_) (fun h => hp _ ⟨fun z => (by cases z), fun z => absurd z.1 h⟩)
  refine twoD (fun e2 => ?_) (fun h => hp _ ⟨fun z => (by cases z), fun z => absurd z.2.1 h⟩)
  refine ⟨(okE_tup (okE_ints _ 0)).up (Nat.le_of_ble_eq_true rfl), (okE_tup (okE_ints _ 0)).up (Nat.le_of_ble_eq_true rfl), fun b hb => hp b ?_⟩
  rw [hb]
  exact ⟨fun z => ⟨e1, e2, ints_inj (Dat.tup.inj z)⟩, fun z => by rw [z.2.2]⟩
end
/-- == of two groups, asked of _law_same -/
theorem eq_grp {p q p' q' : Int} {bs bs' : List Int} {P : Dat → Prop} (k : ∀ b : Bool, (b = true ↔ p = p' ∧ q = q' ∧ bs = bs') → P (.bl b)) : kEqO 0 aspGrEq (grpD p q bs) (grpD p' q' bs') P :=
  ⟨⟨rfl, rfl⟩, p, q, p', q', bs, bs', rfl, fun b hb => ⟨b, rfl, k b hb⟩⟩
theorem GOk.rev {p q : Int} {bs : List Int} (g : GOk p q bs) : GOk p q bs.reverse := by
  have l2 := g.l2
  have lm := g.lm
  exact ⟨g.p3, g.pm, g.pp, g.qp, g.dv, by rw [List.length_reverse]; exact l2, by rw [List.length_reverse]; exact lm, fun b hb => g.el b (List.mem_reverse.mp hb), List.pairwise_reverse.mpr (List.Pairwise.imp (fun h => Ne.symm h) g.nd)⟩
theorem ne_grp {p q p' q' : Int} {bs bs' : List Int} {P : Dat → Prop} (k : ∀ b : Bool, (b = true ↔ p = p' ∧ q = q' ∧ bs = bs') → P (.bl (!b))) : kNeO 0 aspGrEq (grpD p q bs) (grpD p' q' bs') P :=
  ⟨⟨rfl, rfl⟩, p, q, p', q', bs, bs', rfl, fun b hb => ⟨b, rfl, k b hb⟩⟩
theorem op_ninO {X : Cx} {n j c : Nat} {ca : Nat → Addr} {asp : ASp} (E : EqM X.prog X.w X.K X.mg X.base n (ca c) (toSp X.K ca asp)) (u : UQ (objS c asp)) (hr : Room j X.A) (hk : n + 1 ≤ j) : OpR X (compareOp .NotIn) (rInS X.K ca true (objS c asp)) := by
  obtain ⟨f, fd, ps, F, hs, hf, hb⟩ := E.ex
  exact op_inS true (RcS.eqS (RcS.obj F hs hf hb pass0) objS_ref u) (hr.mono hk)
theorem zip2 {b0 b1 r s : Int} {t : List Int} : (b0 :: b1 :: t).zip [r, s] = [(b0, r), (b1, s)] := by
  rw [List.zip_cons_cons, List.zip_cons_cons, List.zip_nil_right]
theorem side_rs {p q b0 b1 r s e : Int} : side p q ["r", "s"] [r, s] (e, [(b0, "r"), (b1, "s")]) = prZ p q [(b0, r), (b1, s)] := by
  rw [side_two (t := []) rfl, zip2]
theorem reply_fits {p q b0 b1 r s t0 t1 c e : Int} {t : List Int} (q1 : 1 < q) (p1 : 1 < p) (h0 : b0 ^ q.toNat % p = 1) (h1 : b1 ^ q.toNat % p = 1) (he : e = prZ p q [(b0, r), (b1, s)]) (hc : 0 ≤ c ∧ c < q) :
    Fit1 p q (b0 :: b1 :: t) e [prZ p q [(b0, t0), (b1, t1)]] c [(t0 + c * r) % q, (t1 + c * s) % q] := by
  refine ⟨b0, b1, t, rfl, rfl, rfl, rfl, hc, fun x hx => ?_, ?_, fun x hx => nomatch hx⟩
  · rcases List.mem_cons.mp hx with rfl | hx
    · exact emod_bd (by omega)
    · obtain rfl := List.mem_singleton.mp hx
      exact emod_bd (by omega)
  · have hf : ∀ x ∈ [(e, [(b0, ("r" : Str)), (b1, ("s" : Str))])], ∀ f ∈ x.2, f.2 ∈ [("r" : Str), "s"] ∧ f.1 ^ q.toNat % p = 1 := fun x hx f hf => by
      obtain rfl := List.mem_singleton.mp hx
      rcases List.mem_cons.mp hf with rfl | hf
      · exact ⟨List.mem_cons_self, h0⟩
      · obtain rfl := List.mem_singleton.mp hf
        exact ⟨List.mem_cons_of_mem _ List.mem_cons_self, h1⟩
    have g := firsts_due (p := p) (q := q) (us := [("r" : Str), "s"]) (eqs := [(e, [(b0, "r"), (b1, "s")])]) (ts := [t0, t1]) (vs := [r, s]) (c := c) q1 p1 hf (Nat.le_refl _) (Nat.le_refl _) (fun x hx => by
      obtain rfl := List.mem_singleton.mp hx
      rw [side_rs]
      exact he)
    refine g.trans ?_
    show [side p q ["r", "s"] [t0, t1] (e, [(b0, "r"), (b1, "s")])] = _
    rw [side_rs]
def kyD : Key → Dat
  | .inl i => .int i
  | .inr s => .str s
theorem ksQ_ky {k : Key} {P : Key → Prop} (h : P k) : ksQ (kyD k) P := by
  cases k <;> exact h
def mkD {α : Type} (kf : α → Key) (g : α → Dat) (acc : List (Key × Dat)) (xs : List α) : List (Key × Dat) := xs.foldl (fun acc x => putD acc (kf x) (g x)) acc
theorem lcD_map {α : Type} {f : α → Dat} {el : Dat → (Option (Dat × Dat) → Prop) → Prop} {P : List (Key × Dat) → Prop} (kf : α → Key) (g : α → Dat) : ∀ {xs : List α} {acc : List (Key × Dat)}, (∀ x ∈ xs, ∀ Q : Option (Dat × Dat) → Prop, Q (some (kyD (kf x), g x)) → el (f x) Q) → P (mkD kf g acc xs) → lcD el P (xs.map f) acc
  | [], _, _, p => p
  | x :: xs, acc, h, p => by
    rw [List.map_cons]
    refine h x List.mem_cons_self _ ?_
    exact ksQ_ky (lcD_map kf g (fun y hy => h y (List.mem_cons_of_mem _ hy)) p)
theorem dget_mk {α : Type} (kf : α → Key) (g : α → Dat) (j : Key) : ∀ (xs : List α) (acc : List (Key × Dat)), dgetD (mkD kf g acc xs) j = xs.foldl (fun a x => if kf x = j then some (g x) else a) (dgetD acc j)
  | [], _ => rfl
  | x :: xs, acc => by
    show dgetD (mkD kf g (putD acc (kf x) (g x)) xs) j = _
    rw [dget_mk kf g j xs, dgetD_put]
    rfl
/-- the fields of the last kind of a name -/
def lkK (nm : Str) (ks : List Kd) : Option (List Fld) := ks.foldl (fun a k => if k.1 = nm then some k.2 else a) none
theorem cutLast {xs : List Dat} : cutD xs none (some (-1)) = xs.dropLast := by
  have e : HT.sIx xs.length xs.length (some (-1)) = xs.length - 1 := by
    show (if (-1 : Int) < 0 then ((-1 : Int) + (xs.length : Int)).toNat else min (-1 : Int).toNat xs.length) = _
    rw [if_pos (by decide)]
    omega
  unfold cutD
  rw [e, show HT.sIx xs.length 0 none = 0 from rfl, List.drop_zero, Nat.sub_zero, List.dropLast_eq_take]
theorem ks_shape {ks : List Kd} (h : KsOk ks) : (∃ f0, ks = [(("person" : Str), f0)]) ∨ ∃ f0 f1, ks = [(("person" : Str), f0), ("club", f1)] := by
  rcases h.nm with e | e
  · match ks, e with
    | [(a, f0)], e =>
      obtain rfl : a = "person" := (List.cons.inj e).1
      exact .inl ⟨f0, rfl⟩
  · match ks, e with
    | [(a, f0), (b, f1)], e =>
      obtain rfl : a = "person" := (List.cons.inj e).1
      obtain rfl : b = "club" := (List.cons.inj (List.cons.inj e).2).1
      exact .inr ⟨f0, f1, rfl⟩
theorem pc_ne : ("person" : Str) ≠ "club" := by rw [ne_eq, ofS_inj]; decide
theorem ks_filt {ks : List Kd} (h : KsOk ks) {kn : Str} {fs : List Fld} (m : (kn, fs) ∈ ks) : ks.filter (fun k => decide (k.1 = kn)) = [(kn, fs)] := by
  rcases ks_shape h with ⟨f0, rfl⟩ | ⟨f0, f1, rfl⟩
  · obtain ⟨rfl, rfl⟩ := Prod.mk.inj (List.mem_singleton.mp m)
    rw [List.filter_cons, if_pos (decide_eq_true rfl), List.filter_nil]
  · rcases List.mem_cons.mp m with e | m
    · obtain ⟨rfl, rfl⟩ := Prod.mk.inj e
      rw [List.filter_cons, if_pos (decide_eq_true rfl), List.filter_cons, if_neg (by rw [decide_eq_true_eq]; exact Ne.symm pc_ne), List.filter_nil]
    · obtain ⟨rfl, rfl⟩ := Prod.mk.inj (List.mem_singleton.mp m)
      rw [List.filter_cons, if_neg (by rw [decide_eq_true_eq]; exact pc_ne), List.filter_cons, if_pos (decide_eq_true rfl), List.filter_nil]
theorem ks_name {ks : List Kd} (h : KsOk ks) {kn : Str} {fs : List Fld} (m : (kn, fs) ∈ ks) : (kn = "person" ∨ kn = "club") ∧ PyData.strOk kn = true ∧ kn ≠ "zz" := by
  have g : kn = "person" ∨ kn = "club" := by
    rcases ks_shape h with ⟨f0, rfl⟩ | ⟨f0, f1, rfl⟩
    · exact .inl (Prod.mk.inj (List.mem_singleton.mp m)).1
    · rcases List.mem_cons.mp m with e | m
      · exact .inl (Prod.mk.inj e).1
      · exact .inr (Prod.mk.inj (List.mem_singleton.mp m)).1
  refine ⟨g, ?_⟩
  rcases g with rfl | rfl
  · exact ⟨by decide +kernel, by rw [ne_eq, ofS_inj]; decide⟩
  · exact ⟨by decide +kernel, by rw [ne_eq, ofS_inj]; decide⟩
theorem GOk.take {p q : Int} {bs : List Int} (g : GOk p q bs) (l : 6 ≤ bs.length) : GOk p q (bs.take 5) := by
  have lm := g.lm
  refine ⟨g.p3, g.pm, g.pp, g.qp, g.dv, by rw [List.length_take]; omega, by rw [List.length_take]; omega, fun b hb => g.el b (List.mem_of_mem_take hb), ?_⟩
  exact List.Nodup.sublist (List.take_sublist 5 bs) g.nd
theorem gk_find {ks : List Kd} (h : KsOk ks) {kn : Str} {kf : List Fld} {l : Nat} (m : (kn, kf) ∈ ks) (hl : kf.length + 2 ≤ l) : ks.find? (gkB kn l) = some (kn, kf) := by
  have f : ks.find? (gkB kn l) = (ks.filter (gkB kn l)).head? := List.head?_filter.symm
  have g : ks.filter (gkB kn l) = (ks.filter fun k => decide (k.1 = kn)).filter fun k => decide (k.2.length + 2 ≤ l) := by
    rw [List.filter_filter]
    refine List.filter_congr fun k _ => ?_
    unfold gkB
    rw [Bool.and_comm]
  rw [f, g, ks_filt h m, List.filter_cons, if_pos (decide_eq_true hl)]
  rfl
theorem prZ_El {p q b0 b1 r s : Int} (p1 : 1 < p) (q1 : 1 < q) (h0 : b0 ^ q.toNat % p = 1) (h1 : b1 ^ q.toNat % p = 1) : El p q (prZ p q [(b0, r), (b1, s)]) := by
  have rt : prZ p q [(b0, r), (b1, s)] ^ q.toNat % p = 1 := prF_root p1 _ 1 (by rw [Int.one_pow, one_mod p1]) fun x hx => by
    rcases List.mem_cons.mp hx with rfl | hx
    · exact h0
    · obtain rfl := List.mem_singleton.mp hx
      exact h1
  have bd := prZ_bd (q := q) p1 [(b0, r), (b1, s)]
  refine ⟨?_, bd.2, rt⟩
  rcases (show prZ p q [(b0, r), (b1, s)] = 0 ∨ 1 ≤ prZ p q [(b0, r), (b1, s)] by omega) with z | z
  · rw [z] at rt
    have : (0 : Int) ^ q.toNat = 0 := Int.zero_pow (by omega)
    rw [this, Int.zero_emod] at rt
    cases rt
  · exact z
theorem may_of {fs : List Fld} {vs : List Int} (h : Paired (fun (f : Fld) v => 0 ≤ v ∧ v < f.2) fs vs) : mayH fs vs = true ∧ vs.length = fs.length := by
  have g : vs.length = fs.length ∧ ((List.zip vs fs).all fun x => decide (0 ≤ x.1) && decide (x.1 < x.2.2)) = true := by
    induction h with
    | nil => exact ⟨rfl, rfl⟩
    | cons r t ih =>
      refine ⟨congrArg (· + 1) ih.1, ?_⟩
      rw [List.zip_cons_cons, List.all_cons, decide_eq_true r.1, decide_eq_true r.2, ih.2]
      rfl
  refine ⟨?_, g.1⟩
  unfold mayH
  rw [g.2, decide_eq_true g.1]
  rfl
theorem lkK_find {ks : List Kd} (h : KsOk ks) (nm : Str) : lkK nm ks = (ks.find? fun k => decide (k.1 = nm)).map (·.2) := by
  rcases ks_shape h with ⟨f0, rfl⟩ | ⟨f0, f1, rfl⟩
  · show (if ("person" : Str) = nm then some f0 else none) = _
    by_cases e : ("person" : Str) = nm
    · subst e
      simp [List.find?_cons]
    · simp [List.find?_cons, e]
  · show (if ("club" : Str) = nm then some f1 else if ("person" : Str) = nm then some f0 else none) = _
    by_cases e : ("person" : Str) = nm
    · subst e
      simp [List.find?_cons, Ne.symm pc_ne]
    · by_cases g : ("club" : Str) = nm
      · subst g
        simp [List.find?_cons, pc_ne]
      · simp [List.find?_cons, e, g]
theorem lkK_of {ks : List Kd} (h : KsOk ks) {kn : Str} {kf : List Fld} (m : (kn, kf) ∈ ks) : lkK kn ks = some kf := by
  rw [lkK_find h, ← List.head?_filter, ks_filt h m]
  rfl
abbrev s__check_kind : Stmt := top 28
theorem sc__check_kind : FnScope ["group", "kind", "_", "many"] ["group", "kind"] (defScope s__check_kind) := ⟨rfl, rfl, rfl, by decide +kernel, rfl, by decide +kernel, by decide +kernel⟩
abbrev s__issuers_of_card : Stmt := top 29
theorem sc__issuers_of_card : FnScope ["group", "kind", "names", "issuers", "listed", "name", "issuer"] ["group", "kind", "names", "issuers"] (defScope s__issuers_of_card) := ⟨rfl, rfl, rfl, by decide +kernel, rfl, by decide +kernel, by decide +kernel⟩
abbrev s__counting_rows : Stmt := top 30
theorem sc__counting_rows : FnScope ["kind", "issuers", "day", "rows", "issuer", "index"] ["kind", "issuers", "day"] (defScope s__counting_rows) := ⟨rfl, rfl, rfl, by decide +kernel, rfl, by decide +kernel, by decide +kernel⟩
abbrev s_question_of : Stmt := top 27
theorem sc_question_of : FnScope ["group", "kinds", "policy", "issuers", "day", "named", "rows", "_", "name", "names", "granting", "kind"] ["group", "kinds", "policy", "issuers", "day"] (defScope s_question_of) := ⟨rfl, rfl, rfl, by decide +kernel, rfl, by decide +kernel, by decide +kernel⟩
structure GlQ (mg : Str → Option Value) : Prop where
  MOST_ROWS : ∃ t, mg "MOST_ROWS" = some (.int 8 t)
  FIRST_FIELD_BASE : ∃ t, mg "FIRST_FIELD_BASE" = some (.int 2 t)
/-- an issuer that changes no more -/
structure Iq where
  n : Str
  p : Int
  q : Int
  bs : List Int
  ks : List Kd
  rows : List BRow
  rq : Dat
def iqD (i : Iq) : Dat := .obj 5 [.str i.n, grpD i.p i.q i.bs, .tup (i.ks.map kdP), .lst (i.rows.map rowD), i.rq]
/-- the rows of an issuer that count -/
def rwI (kn : Str) (day : Int) (i : Iq) : List Rw := (i.rows.zipIdx.filter fun x => decide (x.1.kn = kn) && Cnt x.1 day).map fun x => (i.n, ((x.2 : Nat) : Int), x.1.el)
/-- the last issuer of a name -/
def fI (is : List Iq) (nm : Str) : Option Iq := is.foldl (fun a i => if i.n = nm then some i else a) none
theorem dget_fI (nm : Str) (is : List Iq) : dgetD (mkD (fun i : Iq => .inr i.n) iqD [] is) (.inr nm) = (fI is nm).map iqD := by
  rw [dget_mk]
  have gen : ∀ (is : List Iq) (a : Option Iq), is.foldl (fun a i => if (Sum.inr i.n : Key) = .inr nm then some (iqD i) else a) (a.map iqD) = (is.foldl (fun a i => if i.n = nm then some i else a) a).map iqD := fun is => by
    induction is with
    | nil => exact fun _ => rfl
    | cons i is ih =>
      intro a
      rw [List.foldl_cons, List.foldl_cons, ← ih]
      by_cases e : i.n = nm
      · rw [if_pos (by rw [e]), if_pos e]
        rfl
      · rw [if_neg (by rw [Sum.inr.injEq]; exact e), if_neg e]
  exact gen is none
theorem dget_kd (nm : Str) (ks : List Kd) : dgetD (mkD (fun k : Kd => .inr k.1) kdP [] ks) (.inr nm) = (lkK nm ks).map fun fs => kdO nm fs := by
  rw [dget_mk]
  have gen : ∀ (ks : List Kd) (a : Option (List Fld)), ks.foldl (fun a k => if (Sum.inr k.1 : Key) = .inr nm then some (kdP k) else a) (a.map fun fs => kdO nm fs) = (ks.foldl (fun a k => if k.1 = nm then some k.2 else a) a).map fun fs => kdO nm fs := fun ks => by
    induction ks with
    | nil => exact fun _ => rfl
    | cons k ks ih =>
      intro a
      rw [List.foldl_cons, List.foldl_cons, ← ih]
      by_cases e : k.1 = nm
      · rw [if_pos (by rw [e]), if_pos e]
        subst e
        rfl
      · rw [if_neg (by rw [Sum.inr.injEq]; exact e), if_neg e]
  exact gen ks none
theorem fI_mem {is : List Iq} {nm : Str} {i : Iq} (h : fI is nm = some i) : i ∈ is ∧ i.n = nm := by
  have gen : ∀ (is : List Iq) (a : Option Iq), is.foldl (fun a i => if i.n = nm then some i else a) a = some i → a = some i ∨ (i ∈ is ∧ i.n = nm) := fun is => by
    induction is with
    | nil => exact fun a h => .inl h
    | cons j is ih =>
      intro a h
      rw [List.foldl_cons] at h
      rcases ih _ h with e | ⟨m, e⟩
      · by_cases g : j.n = nm
        · rw [if_pos g] at e
          cases e
          exact .inr ⟨List.mem_cons_self, g⟩
        · rw [if_neg g] at e
          exact .inl e
      · exact .inr ⟨List.mem_cons_of_mem _ m, e⟩
  exact (gen is none h).resolve_left fun z => nomatch z
/-- may an issuer stand for a kind -/
def okI (p q : Int) (bs : List Int) (kn : Str) (kf : List Fld) (is : List Iq) (nm : Str) : Bool := match fI is nm with
  | none => false
  | some i => decide ((i.p = p ∧ i.q = q ∧ i.bs = bs) ∧ (kn, kf) ∈ i.ks)
theorem kdP_inj {k k' : Kd} (h : kdP k = kdP k') : k = k' := by
  unfold kdP kdO at h
  rw [Dat.obj.injEq, List.cons.injEq, List.cons.injEq, Dat.str.injEq, Dat.tup.injEq] at h
  exact Prod.ext h.2.1 (map_inj (fun _ _ => fmD_inj) h.2.2.1)
theorem any_map {α : Type} {xs : List α} {g : α → Bool} {P : Dat → Prop} (h : P (.bl (xs.any g))) : kAny (.lst (xs.map fun x => Dat.bl (g x))) P := ⟨xs.map g, by rw [List.map_map]; rfl, by
  rw [List.any_map]
  exact h⟩
section
variable {P : Program} {w : World} {K : PySem.W.Frag} {mg : Str → Option Value} {base : Heap} {ca : Nat → Addr}
def bspCk : BSp := fun ds M X P => ∃ (p q : Int) (bs : List Int) (kn : Str) (kf : List Fld), ds = [grpD p q bs, kdO kn kf] ∧ kf.length ≤ 100 ∧ (bs.length < 2 + kf.length → X 12 [.str "bases"] M) ∧ (¬ bs.length < 2 + kf.length → kf.any (fun f => decide (q < f.2)) = true → X 12 [.str "range"] M) ∧ (¬ bs.length < 2 + kf.length → kf.any (fun f => decide (q < f.2)) = false → P .non M)
theorem ok_ck {f : Addr} {fd : FuncData} (F : Fun K "_check_kind" "_check_kind" s__check_kind f fd) (T0 : GT K (ca 0)) (T3 : KdT K (ca 3)) (B : Blt mg) (G : GlQ mg) (XM_BadQuestion : XMk P w K mg base "BadQuestion" (ca 12) "what") : FnOk P w K mg base (L2.CX P w) 3 f fd ["group", "kind"] (toSp2 K ca bspCk) := by
  refine F.okX sc__check_kind (fun vs H Q E h => sp_len2 (n := 2) (fun ds M X P a => by obtain ⟨_, _, _, _, _, rfl, _⟩ := a; rfl) h) (fun cdv A outer s H vs Q E hr h => ⟨_, (pss_cons (ps_if (pt_cmpR op_lt (pe_callB (klen (K := K) rfl) (by rfl) B.len bt_len (pa_cons (kfld (K := K) rfl (pv 0)) pa_nil)) (pe_op op_add (pe_gint G.FIRST_FIELD_BASE) (pe_callB (klen (K := K) rfl) (by rfl) B.len bt_len (pa_cons (kfld (K := K) rfl (pv 1)) pa_nil))) (nomark _)) (pss_one (ps_raise rfl (takes_of rfl rfl rfl rfl) (pmk_x XM_BadQuestion hr (by omega) rfl (pa_cons pe_str pa_nil)))) pss_nil)
      (pss_one (ps_if (pt_val (pe_callB (kany (K := K) rfl rfl) (by rfl) B.any bt_any (pa_cons (pe_lc (own := [("_", 2), ("many", 3)]) (tt := tYes) rfl sc__check_kind.nd (kpit (K := K) rfl (kfld (K := K) rfl (pv 1))) (blkOk_by (N := ["group", "kind", "_", "many"]) (sc := defScope s__check_kind) (by decide +kernel))
        (fun _ _ _ _ _ => (kgtup (K := K) (n := 2) rfl rfl (pgs_cons (pg_name (i := 2) sc__check_kind.nd rfl (.inl rfl)) (pgs_cons (pg_name (i := 3) sc__check_kind.nd rfl (.inl rfl)) pgs_nil)))) (fun _ _ _ _ _ => pts_nil)
        (fun _ _ _ _ _ => (pe_cmpR op_gt (pv 3) (kfld (K := K) rfl (pv 0)) (nomark _)))) pa_nil))) (pss_one (ps_raise rfl (takes_of rfl rfl rfl rfl) (pmk_x XM_BadQuestion hr (by omega) rfl (pa_cons pe_str pa_nil)))) pss_nil))),
    fn_run2 h (fun po => (z_seq (z_if (fun _ => (b_upT fun _ => (a_test (a_op pst_rv rok_B0 (a_b1 u_len (a_pk (a_fld T0.cl T0.n_bases (c := 0) (i := 2) rfl a_var))) (a_op pst_rv rok_I0 a_int (a_b1 u_len (a_pk (a_fld T3.cl T3.n_fields (c := 3) (i := 1) rfl a_var)))))))) (z_raiseO rfl (fun _ => (b_upA fun _ => (a_cons a_str a_nil)))) z_next)
      (z_if (fun _ => (b_upT fun _ => (a_tb (a_b1 u_any (a_pk (a_fz (a_lc (vs := [2, 3]) (i_tup (a_fld T3.cl T3.n_fields (c := 3) (i := 1) rfl a_var)) (g_tup (g_cons (g_name (by decide)) (g_cons (g_name (by decide)) g_nil tot_name) tot_name)) a_yes (a_op pst_rv rok_B0 a_var (a_fld T0.cl T0.n_q (c := 0) (i := 1) rfl a_var))))))))) (z_raiseO rfl (fun _ => (b_upA fun _ => (a_cons a_str a_nil)))) z_next))) (fun ds M X P a => by obtain ⟨_, _, _, _, _, rfl, _⟩ := a; exact Nat.le_of_ble_eq_true rfl) ?_⟩)
  rintro ds M X P ⟨p, q, bs, kn, kf, rfl, hl, h1, h2, h3⟩
  refine zseqG fun N hN => ?_
  unfold grpD kdO
  walk_at "bw"
  rw [List.length_map, List.length_map]
  refine twoD (fun e1 => h1 (by omega)) (fun e1 => ?_)
  have e1 : ¬ bs.length < 2 + kf.length := by omega
  subst hN
  walk_at "bw"
  refine ⟨by rw [List.length_map]; omega, ?_⟩
  refine lcA_mapL (g := fun f : Fld => Dat.bl (decide (q < f.2))) (fun f hf Q hQ => ?_) ?_
  · unfold fmD
    walk_at "bw"
    exact hQ
  · refine any_map ?_
    walk_at "bw"
    cases e : kf.any (fun f => decide (q < f.2)) with
    | true => exact h2 e1 e
    | false => exact h3 e1 e
def bspIc : BSp := fun ds M X P => ∃ (p q : Int) (bs : List Int) (kn : Str) (kf : List Fld) (nms : List Str) (is : List Iq), ds = [grpD p q bs, kdO kn kf, .tup (nms.map .str), .lst (is.map iqD)] ∧ (nms.length ≤ 100 ∧ is.length ≤ 100 ∧ KdOk kn kf ∧ ∀ i ∈ is, ∀ k ∈ i.ks, KdOk k.1 k.2) ∧ (nms.all (okI p q bs kn kf is) = false → X 12 [.str "issuer"] M) ∧ (nms.all (okI p q bs kn kf is) = true → P (.lst ((nms.filterMap (fI is)).map iqD)) M)
theorem ok_ic {f : Addr} {fd : FuncData} (F : Fun K "_issuers_of_card" "_issuers_of_card" s__issuers_of_card f fd) (T0 : GT K (ca 0)) (T3 : KdT K (ca 3)) (T5 : IsT K (ca 5)) (B : Blt mg) (N0 : NeM P w K mg base 1 (ca 0) (toSp K ca aspGrEq)) (E3 : EqM P w K mg base 1 (ca 3) (toSp K ca aspKdEq)) (U3 : UQ (objS 3 aspKdEq)) (XM_BadQuestion : XMk P w K mg base "BadQuestion" (ca 12) "what") : FnOk P w K mg base (L2.CX P w) 4 f fd ["group", "kind", "names", "issuers"] (toSp2 K ca bspIc) := by
  refine F.okX sc__issuers_of_card (fun vs H Q E h => sp_len2 (n := 4) (fun ds M X P a => by obtain ⟨_, _, _, _, _, _, _, rfl, _⟩ := a; rfl) h) (fun cdv A outer s H vs Q E hr h => ⟨_, (pss_cons (ps_set (i := 4) sc__issuers_of_card.nd rfl (.inr rfl) (pe_dc (own := [("issuer", 6)]) (g := gName 6) (tt := tYes) rfl sc__issuers_of_card.nd (kpil (K := K) rfl (pv 3)) (blkOk_by (N := ["group", "kind", "names", "issuers", "listed", "name", "issuer"]) (sc := defScope s__issuers_of_card) (by decide +kernel))
        (fun _ _ _ _ _ => (pg_name (i := 6) sc__issuers_of_card.nd rfl (.inl rfl))) (fun _ _ _ _ _ => pts_nil)
        (fun _ _ _ _ _ => (kfld (K := K) rfl (pv 6)))
        (fun _ _ _ _ _ => (pv 6))))
      (pss_cons (ps_for (passes_of rfl) rfl (kpit (K := K) rfl (pv 2)) (pg_name (i := 5) sc__issuers_of_card.nd rfl (.inl rfl))
      (pss_one (ps_if (PW.pt (pw_or (pt_cmp (pc_dnotin (hu_of hr) (pv 5) (pv 4))) (pw_or (pt_cmpR (op_neM N0 hr (by omega)) (kfld (K := K) rfl (pe_dget (hu_of hr) (pv 4) (pv 5) (fun _ _ => rfl))) (pv 0) (nomark _)) (pw_or1 (pt_cmpR (op_ninO E3 U3 hr (by omega)) (pv 1) (kfld (K := K) rfl (pe_dget (hu_of hr) (pv 4) (pv 5) (fun _ _ => rfl))) rfl))))) (pss_one (ps_raise rfl (takes_of rfl rfl rfl rfl) (pmk_x XM_BadQuestion hr (by omega) rfl (pa_cons pe_str pa_nil)))) pss_nil)))
      (pss_one (ps_ret (pe_lc (own := [("name", 5)]) (g := gName 5) (tt := tYes) rfl sc__issuers_of_card.nd (kpit (K := K) rfl (pv 2)) (blkOk_by (N := ["group", "kind", "names", "issuers", "listed", "name", "issuer"]) (sc := defScope s__issuers_of_card) (by decide +kernel))
        (fun _ _ _ _ _ => (pg_name (i := 5) sc__issuers_of_card.nd rfl (.inl rfl))) (fun _ _ _ _ _ => pts_nil)
        (fun _ _ _ _ _ => (pe_dget (hu_of hr) (pv 4) (pv 5) (fun _ _ => rfl)))))))),
    fn_run2 h (fun po => (z_seq (z_set fun _ => (b_up fun _ => (a_dc (vs := [6]) (i_list a_var) (g_name (by decide)) a_yes (a_fld T5.cl T5.n_name (c := 5) (i := 0) rfl a_var) a_var)))
      (z_seq (z_for (vs := [5]) (fun _ => (b_upI fun _ => (i_tup a_var))) (fun _ => (g_name (by decide)))
      (z_if (fun _ => (b_upT fun _ => (a_or (a_test (a_dnin a_var a_var)) (a_or (a_test (a_op pst_rv rok_neO (a_fld T5.cl T5.n_group (c := 5) (i := 1) rfl (a_dget a_var a_var)) a_var)) (a_test (a_op pst_rv rok_inS a_var (a_pk (a_fld T5.cl T5.n_kinds (c := 5) (i := 2) rfl (a_dget a_var a_var))))))))) (z_raiseO rfl (fun _ => (b_upA fun _ => (a_cons a_str a_nil)))) z_next))
      (z_ret fun _ => (b_up fun _ => (a_fz (a_lc (vs := [5]) (i_tup a_var) (g_name (by decide)) a_yes (a_dget a_var a_var)))))))) (fun ds M X P a => by obtain ⟨_, _, _, _, _, _, _, rfl, _⟩ := a; exact Nat.le_of_ble_eq_true rfl) ?_⟩)
  rintro ds M X P ⟨p, q, bs, kn, kf, nms, is, rfl, ⟨l1, l2, kdo, ikd⟩, h1, h2⟩
  refine zseqG fun N hN => ?_
  unfold grpD kdO
  walk_at "bw"
  refine ⟨by rw [List.length_map]; omega, lcD_map (fun i : Iq => .inr i.n) iqD (fun i hi Q hQ => by unfold iqD; walk_at "dw"; exact hQ) ?_⟩
  subst hN
  refine zseqG fun N hN => ?_
  walk_at "bw"
  refine forB_suf (f := Dat.str) (fun xs env M' => M' = M ∧ (∃ y z, env = [Sl.d (grpD p q bs), Sl.d (kdO kn kf), Sl.d (Dat.tup (nms.map Dat.str)), Sl.d (Dat.lst (is.map iqD)), Sl.d (Dat.dK (mkD (fun i => Sum.inr i.n) iqD [] is)), y, z]) ∧ (∀ x ∈ xs, x ∈ nms) ∧ (∀ x ∈ nms, x ∈ xs ∨ okI p q bs kn kf is x = true)) ?_ ?_ nms _ _ ⟨rfl, ⟨_, _, rfl⟩, fun _ h => h, fun _ h => .inl h⟩
  · rintro nm xs env M' ⟨rfl, ⟨y, z, rfl⟩, i1, i2⟩ N2 hN2
    have bad : okI p q bs kn kf is nm = false → X 12 [.str "issuer"] M' := fun e => h1 (by
      rw [List.all_eq_false]
      exact ⟨nm, i1 nm List.mem_cons_self, by rw [e]; decide⟩)
    walk_at "wq"
    rw [dget_fI]
    cases e : fI is nm with
    | none =>
      have b := bad (by unfold okI; rw [e])
      exact b
    | some i =>
      have mi : i ∈ is := (fI_mem e).1
      have eo : okI p q bs kn kf is nm = decide ((i.p = p ∧ i.q = q ∧ i.bs = bs) ∧ (kn, kf) ∈ i.ks) := by unfold okI; rw [e]
      unfold iqD
      walk_at "wq"
      unfold grpD
      walk_at "wq"
      refine ne_grp fun b hb => ?_
      cases b with
      | false => exact bad (eo.trans (decide_eq_false fun z => absurd (hb.mpr z.1) (by decide)))
      | true =>
        walk_at "wq"
        refine ⟨fun e' he => ?_, fun b' hb' => ?_⟩
        · obtain ⟨k, hk, rfl⟩ := List.mem_map.mp he
          exact ⟨⟨_, _, rfl, rfl⟩, k.1, kn, k.2, kf, rfl, ikd i mi k hk, kdo, fun b hb => ⟨b, rfl, hb.trans ⟨fun z => (by unfold kdP; rw [z.1, z.2]), fun z => (by have := kdP_inj (k := k) (k' := (kn, kf)) z; subst this; exact ⟨rfl, rfl⟩)⟩⟩⟩
        · cases b' with
          | false => exact bad (eo.trans (decide_eq_false fun z => absurd (hb'.mpr (List.mem_map.mpr ⟨_, z.2, rfl⟩)) (by decide)))
          | true =>
            refine hN2 _ _ ⟨rfl, ⟨_, _, rfl⟩, fun x hx => i1 x (List.mem_cons_of_mem _ hx), fun x hx => ?_⟩
            rcases i2 x hx with h | h
            · rcases List.mem_cons.mp h with rfl | h
              · refine .inr (eo.trans (decide_eq_true ⟨hb.mp rfl, ?_⟩))
                obtain ⟨k, hk, ek⟩ := List.mem_map.mp (hb'.mp rfl)
                obtain rfl := kdP_inj (k' := (kn, kf)) ek
                exact hk
              · exact .inl h
            · exact .inr h
  · rintro env M' ⟨rfl, ⟨y, z, rfl⟩, _, i2⟩
    have all : ∀ x ∈ nms, okI p q bs kn kf is x = true := fun x hx => (i2 x hx).elim (fun h => nomatch h) id
    have sm : ∀ x ∈ nms, ∃ i, fI is x = some i := fun x hx => by
      have := all x hx
      unfold okI at this
      cases e : fI is x with
      | none => rw [e] at this; cases this
      | some i => exact ⟨i, rfl⟩
    subst hN
    walk_at "wq"
    refine ⟨by rw [List.length_map]; omega, ?_⟩
    refine lcA_mapL (g := fun nm => match fI is nm with | some i => iqD i | none => .non) (fun x hx Q hQ => ?_) ?_
    · obtain ⟨i, hi⟩ := sm x hx
      rw [hi] at hQ
      walk_at "dw"
      rw [dget_fI, hi]
      exact hQ
    · have e : (nms.map fun nm => match fI is nm with | some i => iqD i | none => Dat.non) = (nms.filterMap (fI is)).map iqD := by
        have gen : ∀ xs : List Str, (∀ x ∈ xs, ∃ i, fI is x = some i) → (xs.map fun nm => match fI is nm with | some i => iqD i | none => Dat.non) = (xs.filterMap (fI is)).map iqD := fun xs => by
          induction xs with
          | nil => exact fun _ => rfl
          | cons x xs ih =>
            intro h
            obtain ⟨i, hi⟩ := h x List.mem_cons_self
            rw [List.map_cons, ih fun y hy => h y (List.mem_cons_of_mem _ hy), List.filterMap_cons, hi]
            rfl
        exact gen nms sm
      rw [e]
      exact h2 (List.all_eq_true.mpr all)
def bspCr : BSp := fun ds M X P => ∃ (kn : Str) (kf : List Fld) (day : Int) (is : List Iq), ds = [kdO kn kf, .lst (is.map iqD), .int day] ∧ ((is.map (rwI kn day)).flatten.length ≤ 1000 ∧ ∀ i ∈ is, i.rows.length ≤ 1000) ∧ ((is.map (rwI kn day)).flatten = [] → X 12 [.str "rows"] M) ∧ (8 < (is.map (rwI kn day)).flatten.length → X 12 [.str "many"] M) ∧ ((is.map (rwI kn day)).flatten ≠ [] → (is.map (rwI kn day)).flatten.length ≤ 8 → P (.lst ((is.map (rwI kn day)).flatten.map rwD)) M)
theorem ok_cr {f : Addr} {fd : FuncData} (F : Fun K "_counting_rows" "_counting_rows" s__counting_rows f fd) (T3 : KdT K (ca 3)) (T5 : IsT K (ca 5)) (B : Blt mg) (G : GlQ mg) (M_counting : C8.Met P w K mg base 2 (ca 5) "counting" (toSp K ca aspCounting) []) (XM_BadQuestion : XMk P w K mg base "BadQuestion" (ca 12) "what") : FnOk P w K mg base (L2.CX P w) 4 f fd ["kind", "issuers", "day"] (toSp2 K ca bspCr) := by
  refine F.okX sc__counting_rows (fun vs H Q E h => sp_len2 (n := 3) (fun ds M X P a => by obtain ⟨_, _, _, _, rfl, _⟩ := a; rfl) h) (fun cdv A outer s H vs Q E hr h => ⟨_, (pss_cons (ps_set (i := 3) sc__counting_rows.nd rfl (.inl rfl) (pe_lst pa_nil))
      (pss_cons (ps_for (passes_of rfl) rfl (kpil (K := K) rfl (pv 1)) (pg_name (i := 4) sc__counting_rows.nd rfl (.inl rfl))
      (pss_one (ps_for (passes_of rfl) rfl (kpil (K := K) rfl (C8.pe_mt M_counting hr (by omega) (pv 4) (pa_cons (kfld (K := K) rfl (pv 0)) (pa_cons (pv 2) pa_nil)))) (pg_name (i := 5) sc__counting_rows.nd rfl (.inl rfl))
      (pss_one (ps_expr (pe_bm PySem.F.plainAttrs_list PySem.F.slot_list_append PySem.F.type_list_append mt_append (pv 3) (pa_cons (pe_tupF (pa_cons (kfld (K := K) rfl (pv 4)) (pa_cons (pv 5) (pa_cons (pe_ix (kixs (K := K) rfl) (pe_ix (kixs (K := K) rfl) (kfld (K := K) rfl (pv 4)) (pv 5) (fun _ _ => rfl)) pe_int (fun _ _ => rfl)) pa_nil)))) pa_nil)))))))
      (pss_cons (ps_if (pt_cmpR op_eq (pe_callB (klen (K := K) rfl) (by rfl) B.len bt_len (pa_cons (pv 3) pa_nil)) pe_int (nomark _)) (pss_one (ps_raise rfl (takes_of rfl rfl rfl rfl) (pmk_x XM_BadQuestion hr (by omega) rfl (pa_cons pe_str pa_nil)))) pss_nil)
      (pss_cons (ps_if (pt_cmpR op_gt (pe_callB (klen (K := K) rfl) (by rfl) B.len bt_len (pa_cons (pv 3) pa_nil)) (pe_gint G.MOST_ROWS) (nomark _)) (pss_one (ps_raise rfl (takes_of rfl rfl rfl rfl) (pmk_x XM_BadQuestion hr (by omega) rfl (pa_cons pe_str pa_nil)))) pss_nil)
      (pss_one (ps_ret (pv 3))))))),
    fn_run2 h (fun po => (z_seq (z_setO fun _ => (b_upF fun _ => (a_lst a_nil)))
      (z_seq (z_for (vs := [4]) (fun _ => (b_upI fun _ => (i_list a_var))) (fun _ => (g_name (by decide)))
      (z_for (vs := [5]) (fun _ => (b_upI fun _ => (i_list (a_meth (by decide) a_var (a_cons (a_fld T3.cl T3.n_name (c := 3) (i := 0) rfl a_var) (a_cons a_var a_nil)))))) (fun _ => (g_name (by decide)))
      (z_app fun _ => (b_up fun _ => (a_tup (a_cons (a_fld T5.cl T5.n_name (c := 5) (i := 0) rfl a_var) (a_cons a_var (a_cons (a_op pst_pk rok_ix (a_pk (a_op pst_pk rok_ix (a_pk (a_fld T5.cl T5.n_book (c := 5) (i := 3) rfl a_var)) a_var)) a_int) a_nil))))))))
      (z_seq (z_if (fun _ => (b_upT fun _ => (a_test (a_op pst_rv rok_eq (a_b1 u_len a_peek) a_int)))) (z_raiseO rfl (fun _ => (b_upA fun _ => (a_cons a_str a_nil)))) z_next)
      (z_seq (z_if (fun _ => (b_upT fun _ => (a_test (a_op pst_rv rok_B0 (a_b1 u_len a_peek) a_int)))) (z_raiseO rfl (fun _ => (b_upA fun _ => (a_cons a_str a_nil)))) z_next)
      (z_fz (i := 3) (z_ret fun _ => (b_up fun _ => a_var)))))))) (fun ds M X P a => by obtain ⟨_, _, _, _, rfl, _⟩ := a; exact Nat.le_of_ble_eq_true rfl) ?_⟩)
  rintro ds M X P ⟨kn, kf, day, is, rfl, ⟨l1, l2⟩, h1, h2, h3⟩
  obtain ⟨all, ea⟩ : ∃ all, all = (is.map (rwI kn day)).flatten := ⟨_, rfl⟩
  rw [← ea] at l1 h1 h2 h3
  refine zseqG fun N hN => ?_
  walk_at "wq"
  subst hN
  refine zseqG fun N hN => ?_
  walk_at "wq"
  refine forB_suf (f := iqD) (fun xs env M' => M' = M ∧ (∃ (acc : List Rw) (y z : Sl), env = [Sl.d (kdO kn kf), Sl.d (Dat.lst (is.map iqD)), Sl.d (Dat.int day), Sl.o (acc.map rwD), y, z] ∧ all = acc ++ (xs.map (rwI kn day)).flatten) ∧ ∀ x ∈ xs, x ∈ is) ?_ ?_ is _ _ ⟨rfl, ⟨[], _, _, rfl, ea⟩, fun _ h => h⟩
  · rintro i xs env M' ⟨rfl, ⟨acc, y, z, rfl, eacc⟩, i1⟩ N2 hN2
    unfold kdO
    walk_at "wq"
    have mi := i1 i List.mem_cons_self
    obtain ⟨L, eL⟩ : ∃ L, L = i.rows.zipIdx.filter fun x => decide (x.1.kn = kn) && Cnt x.1 day := ⟨_, rfl⟩
    have mL : ∀ x ∈ L, i.rows[x.2]? = some x.1 := fun x hx => by
      rw [eL] at hx
      have := List.mem_zipIdx_iff_getElem?.mp (List.mem_filter.mp hx).1
      exact this
    have eR : rwI kn day i = L.map fun x => (i.n, ((x.2 : Nat) : Int), x.1.el) := by rw [eL]; rfl
    refine ⟨rfl, i.n, kn, day, _, _, i.rq, i.rows, rfl, l2 i mi, ?_⟩
    rw [← eL, List.map_map]
    walk_at "wq"
    show forB _ _ _ (L.map fun x => Dat.int ((x.2 : Nat) : Int)) _ _
    refine forB_suf (f := fun x : BRow × Nat => Dat.int ((x.2 : Nat) : Int)) (fun ys env M2 => M2 = M' ∧ (∃ (acc : List Rw) (z : Sl), env = [Sl.d (kdO kn kf), Sl.d (Dat.lst (is.map iqD)), Sl.d (Dat.int day), Sl.o (acc.map rwD), Sl.d (iqD i), z] ∧ all = acc ++ (ys.map fun x => (i.n, ((x.2 : Nat) : Int), x.1.el)) ++ (xs.map (rwI kn day)).flatten) ∧ ∀ x ∈ ys, i.rows[x.2]? = some x.1) ?_ ?_ L _ _ ⟨rfl, ⟨acc, _, rfl, by rw [eacc, List.map_cons, List.flatten_cons, eR, List.append_assoc]⟩, mL⟩
    · rintro ⟨r, k⟩ ys env M2 ⟨rfl, ⟨acc, z, rfl, eacc⟩, i2⟩ N3 hN3
      have hk := i2 _ List.mem_cons_self
      have hk : i.rows[k]? = some r := hk
      unfold iqD
      walk_at "wq"
      refine ⟨by rw [List.length_map]; have := congrArg List.length eacc; rw [List.length_append, List.length_append] at this; omega, oa_at rfl hk ?_⟩
      unfold rowD
      walk_at "wq"
      refine hN3 _ _ ⟨rfl, ⟨acc ++ [(i.n, ((k : Nat) : Int), r.el)], _, by rw [List.map_append]; rfl, by rw [eacc, List.map_cons, List.append_assoc acc, List.append_assoc acc, List.append_assoc acc]; rfl⟩, fun x hx => i2 x (List.mem_cons_of_mem _ hx)⟩
    · rintro env M2 ⟨rfl, ⟨acc, z, rfl, eacc⟩, _⟩
      exact hN2 _ _ ⟨rfl, ⟨acc, _, _, rfl, by rw [eacc, List.map_nil, List.append_nil]⟩, fun x hx => i1 x (List.mem_cons_of_mem _ hx)⟩
  · rintro env M' ⟨rfl, ⟨acc, y, z, rfl, eacc⟩, _⟩
    obtain rfl : all = acc := by rw [eacc, List.map_nil, List.flatten_nil, List.append_nil]
    show N _ _
    subst hN
    refine zseqG fun N hN => ?_
    walk_at "wq"
    rw [List.length_map]
    refine twoD (fun e => h1 (List.length_eq_zero_iff.mp (by omega))) (fun e => ?_)
    subst hN
    refine zseqG fun N hN => ?_
    walk_at "wq"
    rw [List.length_map]
    refine twoD (fun e2 => h2 (by omega)) (fun e2 => ?_)
    subst hN
    walk_at "wq"
    exact h3 (fun z => e (by rw [z]; rfl)) (by omega)
theorem kd_ok {ks : List Kd} (h : KsOk ks) {kn : Str} {kf : List Fld} (m : (kn, kf) ∈ ks) : KdOk kn kf := by
  have f := h.fs _ m
  refine ⟨(ks_name h m).2.1, by have : kf.length ≤ 4 := f.1; omega, fun x hx => ?_⟩
  rcases (f.2 x hx).1 with e | e | e | e <;> rw [e] <;> decide +kernel
/-- what a card gives: an error's name, or rows -/
def cardR (q : Int) (p : Int) (bs : List Int) (is : List Iq) (day : Int) (kf : List Fld) (c : Cd) : Str ⊕ List Rw :=
  if bs.length < 2 + kf.length then .inl "bases" else if kf.any (fun f => decide (q < f.2)) = true then .inl "range" else if c.is.all (okI p q bs c.kn kf is) = false then .inl "issuer" else
    if (((c.is.filterMap (fI is)).map (rwI c.kn day)).flatten) = [] then .inl "rows" else if 8 < (((c.is.filterMap (fI is)).map (rwI c.kn day)).flatten).length then .inl "many" else .inr (((c.is.filterMap (fI is)).map (rwI c.kn day)).flatten)
def kfO (ks : List Kd) (c : Cd) : List Fld := (lkK c.kn ks).getD []
def cardsR (p q : Int) (bs : List Int) (ks : List Kd) (is : List Iq) (day : Int) (cs : List Cd) : List (Str ⊕ List Rw) := cs.map fun c => cardR q p bs is day (kfO ks c) c
/-- the first error -/
def badR : List (Str ⊕ List Rw) → Option Str
  | [] => none
  | .inl e :: _ => some e
  | .inr _ :: rs => badR rs
def goodR : List (Str ⊕ List Rw) → List (List Rw)
  | [] => []
  | .inl _ :: rs => goodR rs
  | .inr r :: rs => r :: goodR rs
def bspQo : BSp := fun ds M X P => ∃ (p q day : Int) (bs : List Int) (ks : List Kd) (cs : List Cd) (is : List Iq), ds = [grpD p q bs, .lst (ks.map kdP), poO cs, .lst (is.map iqD), .int day] ∧
  (KsOk ks ∧ cs.length ≤ 100 ∧ is.length ≤ 100 ∧ (∀ i ∈ is, i.rows.length ≤ 1000 ∧ ∀ k ∈ i.ks, KdOk k.1 k.2) ∧ ∀ c ∈ cs, (∃ kf, (c.kn, kf) ∈ ks) ∧ c.is.length ≤ 100 ∧ ((c.is.filterMap (fI is)).map (rwI c.kn day)).flatten.length ≤ 1000) ∧
  (∀ e, badR (cardsR p q bs ks is day cs) = some e → X 12 [.str e] M) ∧ (badR (cardsR p q bs ks is day cs) = none → P (quO (grpD p q bs) (.tup (ks.map kdP)) (poO cs) (goodR (cardsR p q bs ks is day cs))) M)
theorem ok_qo {f : Addr} {fd : FuncData} (F : Fun K "question_of" "question_of" s_question_of f fd) (T3 : KdT K (ca 3)) (T8 : PoT K (ca 8)) (B : Blt mg) (X__check_kind : CalX P w K mg base 3 "_check_kind" (toSp2 K ca bspCk)) (X__issuers_of_card : CalX P w K mg base 4 "_issuers_of_card" (toSp2 K ca bspIc)) (X__counting_rows : CalX P w K mg base 4 "_counting_rows" (toSp2 K ca bspCr)) (K_Question : C8.Mak P w K mg base 1 "Question" (ca 9) (toSpI K ca 9 aspQuI) []) : FnOk P w K mg base (L2.CX P w) 6 f fd ["group", "kinds", "policy", "issuers", "day"] (toSp2 K ca bspQo) := by
  refine F.okX sc_question_of (fun vs H Q E h => sp_len2 (n := 5) (fun ds M X P a => by obtain ⟨_, _, _, _, _, _, _, rfl, _⟩ := a; rfl) h) (fun cdv A outer s H vs Q E hr h => ⟨_, (pss_cons (ps_setDc (i := 5) (own := [("kind", 11)]) (g := gName 11) (tt := tYes) rfl sc_question_of.nd rfl rfl (sw_dc rfl rfl rfl (by decide +kernel)) (kpil (K := K) rfl (pv 1)) (blkOk_by (N := ["group", "kinds", "policy", "issuers", "day", "named", "rows", "_", "name", "names", "granting", "kind"]) (sc := defScope s_question_of) (by decide +kernel))
        (fun _ _ _ _ _ => (pg_name (i := 11) sc_question_of.nd rfl (.inl rfl))) (fun _ _ _ _ _ => pts_nil)
        (fun _ _ _ _ _ => (kfld (K := K) rfl (pv 11)))
        (fun _ _ _ _ _ => (pv 11)))
      (pss_cons (ps_set (i := 6) sc_question_of.nd rfl (.inl rfl) (pe_lst pa_nil))
      (pss_cons (ps_for (passes_of rfl) rfl (kpit (K := K) rfl (kfld (K := K) rfl (pv 2))) (kgtup (K := K) (n := 3) rfl rfl (pgs_cons (pg_name (i := 7) sc_question_of.nd rfl (.inl rfl)) (pgs_cons (pg_name (i := 8) sc_question_of.nd rfl (.inl rfl)) (pgs_cons (pg_name (i := 9) sc_question_of.nd rfl (.inl rfl)) pgs_nil))))
      (pss_cons (ps_expr (by exact (pe_cX X__check_kind (takes_of rfl rfl rfl rfl) hr (by omega) rfl (pa_cons (pv 0) (pa_cons (pe_dget (hu_of hr) (pv 5) (pv 8) (fun _ _ => rfl)) pa_nil)))))
      (pss_cons (ps_set (i := 10) sc_question_of.nd rfl (.inl rfl) (by exact (pe_cX X__issuers_of_card (takes_of rfl rfl rfl rfl) hr (by omega) rfl (pa_cons (pv 0) (pa_cons (pe_dget (hu_of hr) (pv 5) (pv 8) (fun _ _ => rfl)) (pa_cons (pv 9) (pa_cons (pv 3) pa_nil)))))))
      (pss_one (ps_expr (pe_bm PySem.F.plainAttrs_list PySem.F.slot_list_append PySem.F.type_list_append mt_append (pv 6) (pa_cons (by exact (pe_cX X__counting_rows (takes_of rfl rfl rfl rfl) hr (by omega) rfl (pa_cons (pe_dget (hu_of hr) (pv 5) (pv 8) (fun _ _ => rfl)) (pa_cons (pv 10) (pa_cons (pv 4) pa_nil))))) pa_nil)))))))
      (pss_one (ps_ret (C8.pe_mk K_Question hr (by omega) rfl (pa_cons (pv 0) (pa_cons (pv 1) (pa_cons (pv 2) (pa_cons (pv 6) pa_nil)))))))))),
    fn_run2 h (fun po => (z_seq (z_set fun _ => (b_up fun _ => (a_dc (vs := [11]) (i_list a_var) (g_name (by decide)) a_yes (a_fld T3.cl T3.n_name (c := 3) (i := 0) rfl a_var) a_var)))
      (z_seq (z_setO fun _ => (b_upF fun _ => (a_lst a_nil)))
      (z_seq (z_for (vs := [7, 8, 9]) (fun _ => (b_upI fun _ => (i_tup (a_fld T8.cl T8.n_cards (c := 8) (i := 0) rfl a_var)))) (fun _ => (g_tup (g_cons (g_name (by decide)) (g_cons (g_name (by decide)) (g_cons (g_name (by decide)) g_nil tot_name) tot_name) tot_name)))
      (z_seq (z_drop fun _ => (b_callX (b_upA fun _ => (a_cons a_var (a_cons (a_dget a_var a_var) a_nil)))))
      (z_seq (z_set fun _ => (b_callX (b_upA fun _ => (a_cons a_var (a_cons (a_dget a_var a_var) (a_cons a_var (a_cons a_var a_nil)))))))
      (z_app fun _ => (b_callX (b_upA fun _ => (a_cons (a_dget a_var a_var) (a_cons a_var (a_cons a_var a_nil)))))))))
      (z_fz (i := 6) (z_ret fun _ => (b_up fun _ => (a_make (a_cons a_var (a_cons a_var (a_cons a_var (a_cons a_var a_nil)))))))))))) (fun ds M X P a => by obtain ⟨_, _, _, _, _, _, _, rfl, _⟩ := a; exact Nat.le_of_ble_eq_true rfl) ?_⟩)
  rintro ds M X P ⟨p, q, day, bs, ks, cs, is, rfl, ⟨kok, l1, l2, iok, cok⟩, h1, h2⟩
  have kl : ks.length ≤ 2 := by rcases ks_shape kok with ⟨_, e⟩ | ⟨_, _, e⟩ <;> rw [e] <;> exact Nat.le_of_ble_eq_true rfl
  refine zseqG fun N hN => ?_
  walk_at "wq"
  refine ⟨by rw [List.length_map]; omega, lcD_map (fun k : Kd => .inr k.1) kdP (fun k hk Q hQ => by unfold kdP kdO; walk_at "dw"; exact hQ) ?_⟩
  subst hN
  refine zseqG fun N hN => ?_
  walk_at "wq"
  subst hN
  refine zseqG fun N hN => ?_
  unfold poO
  walk_at "wq"
  obtain ⟨D, hD⟩ : ∃ D, D = Dat.dK (mkD (fun k : Kd => Sum.inr k.1) kdP [] ks) := ⟨_, rfl⟩
  have gD : ∀ c ∈ cs, ∀ Q : Dat → Prop, Q (kdO c.kn (kfO ks c)) → kDget D (.str c.kn) Q := fun c hc Q h => by
    obtain ⟨kf, m⟩ := (cok c hc).1
    rw [hD]
    show oQ (dgetD (mkD (fun k : Kd => Sum.inr k.1) kdP [] ks) (.inr c.kn)) Q
    rw [dget_kd]
    unfold kfO at h
    rw [lkK_of kok m] at h ⊢
    exact h
  rw [← hD]
  refine forB_suf (f := cdD) (fun xs env M' => M' = M ∧ (∃ (acc : List (List Rw)) (t7 t8 t9 t10 t11 : Sl), env = [Sl.d (grpD p q bs), Sl.d (.lst (ks.map kdP)), Sl.d (.obj 8 [.tup (cs.map cdD), .tup []]), Sl.d (.lst (is.map iqD)), Sl.d (.int day), Sl.d D, Sl.o (acc.map fun r => .lst (r.map rwD)), t7, t8, t9, t10, t11] ∧ badR (cardsR p q bs ks is day cs) = badR (cardsR p q bs ks is day xs) ∧ goodR (cardsR p q bs ks is day cs) = acc ++ goodR (cardsR p q bs ks is day xs) ∧ acc.length + xs.length ≤ 100 ∧ ∀ r ∈ acc, r.length ≤ 1000) ∧ ∀ x ∈ xs, x ∈ cs) ?_ ?_ cs _ _ ⟨rfl, ⟨[], _, _, _, _, _, rfl, rfl, rfl, by rw [List.length_nil]; omega, fun _ h => nomatch h⟩, fun _ h => h⟩
  · rintro c xs env M' ⟨rfl, ⟨acc, t7, t8, t9, t10, t11, rfl, i1, i2, i3, i4⟩, i5⟩ N2 hN2
    have mc := i5 c List.mem_cons_self
    obtain ⟨⟨kf, mk⟩, c1, c2⟩ := cok c mc
    have ek : kfO ks c = kf := by unfold kfO; rw [lkK_of kok mk]; rfl
    have g := gD c mc
    rw [ek] at g
    have kd := kok.fs _ mk
    have k4 : kf.length ≤ 4 := kd.1
    have ec : cardsR p q bs ks is day (c :: xs) = cardR q p bs is day kf c :: cardsR p q bs ks is day xs := by
      show cardR q p bs is day (kfO ks c) c :: _ = _
      rw [ek]
      rfl
    rw [ec] at i1 i2
    unfold cdD
    walk_at "wq"
    refine zseqG fun N3 hN3 => ?_
    walk_at "wq"
    refine g _ ?_
    refine ⟨p, q, bs, c.kn, kf, rfl, by omega, fun e1 => h1 _ ?_, fun e1 e2 => h1 _ ?_, fun e1 e2 => ?_⟩
    · rw [i1]
      unfold cardR
      rw [if_pos e1]
      rfl
    · rw [i1]
      unfold cardR
      rw [if_neg e1, if_pos e2]
      rfl
    have e3 : cardR q p bs is day kf c = if c.is.all (okI p q bs c.kn kf is) = false then .inl "issuer" else
    if (((c.is.filterMap (fI is)).map (rwI c.kn day)).flatten) = [] then .inl "rows" else if 8 < (((c.is.filterMap (fI is)).map (rwI c.kn day)).flatten).length then .inl "many" else .inr (((c.is.filterMap (fI is)).map (rwI c.kn day)).flatten) := by
      unfold cardR
      rw [if_neg e1, if_neg (by rw [e2]; decide)]
    rw [e3] at i1 i2
    subst hN3
    refine zseqG fun N3 hN3 => ?_
    walk_at "wq"
    refine g _ ?_
    refine ⟨p, q, bs, c.kn, kf, c.is, is, rfl, ⟨c1, l2, ?_, fun i hi => (iok i hi).2⟩, fun e4 => h1 _ ?_, fun e4 => ?_⟩
    · exact kd_ok kok mk
    · rw [i1, if_pos e4]
      rfl
    rw [if_neg (by rw [e4]; decide)] at i1 i2
    obtain ⟨fl, efl⟩ : ∃ fl, fl = ((c.is.filterMap (fI is)).map (rwI c.kn day)).flatten := ⟨_, rfl⟩
    subst hN3
    walk_at "wq"
    refine ⟨by rw [List.length_map]; omega, g _ ?_⟩
    refine ⟨c.kn, kf, day, c.is.filterMap (fI is), rfl, ⟨c2, ?_⟩, ?_⟩
    · intro i hi
      obtain ⟨x, _, hx⟩ := List.mem_filterMap.mp hi
      exact (iok i (fI_mem hx).1).1
    rw [← efl] at i1 i2 c2 ⊢
    refine ⟨fun e5 => h1 _ ?_, fun e5 => h1 _ ?_, fun e5 e6 => ?_⟩
    · rw [i1, if_pos e5]
      rfl
    · have e6 : fl ≠ [] := fun z => by
        rw [z] at e5
        exact absurd e5 (by decide)
      rw [i1, if_neg e6, if_pos e5]
      rfl
    rw [if_neg e5, if_neg (by omega)] at i1 i2
    refine hN2 _ _ ⟨rfl, ⟨acc ++ [fl], _, _, _, _, _, by rw [List.map_append]; rfl, i1, i2.trans ?_, by rw [List.length_append, List.length_singleton]; rw [List.length_cons] at i3; omega, fun r hr => ?_⟩, fun x hx => i5 x (List.mem_cons_of_mem _ hx)⟩
    · show acc ++ (fl :: goodR (cardsR p q bs ks is day xs)) = _
      rw [List.append_assoc]
      rfl
    · rcases List.mem_append.mp hr with hr | hr
      · exact i4 r hr
      · obtain rfl := List.mem_singleton.mp hr
        omega
  · rintro env M' ⟨rfl, ⟨acc, t7, t8, t9, t10, t11, rfl, i1, i2, i3, i4⟩, _⟩
    show N _ _
    subst hN
    walk_at "wq"
    have e0 : badR (cardsR p q bs ks is day []) = none := rfl
    have e1 : goodR (cardsR p q bs ks is day []) = [] := rfl
    rw [e1, List.append_nil] at i2
    refine ⟨grpD p q bs, .obj 8 [.tup (cs.map cdD), .tup []], ks.map kdP, acc, rfl, by rw [List.length_nil] at i3; omega, i4, ?_⟩
    have h := h2 (i1.trans e0)
    rw [i2] at h
    exact h
end
structure IsN (n : Str) (M : Sto) (x bk rq : Addr) (ra : List Addr) (ls : List LR) (rows : List BRow) (p q : Int) (bs : List Int) (ks : List Kd) : Prop where
  hx : M x = some (.obj 5 (isL n p q bs ks bk rq))
  hb : M bk = some (.lst (rows.map rowD))
  hq : M rq = some (.lst (ra.map .cell))
  ln : ra.length = ls.length
  at_ : ∀ (i : Nat) a l, ra[i]? = some a → ls[i]? = some l → M a = some (.obj 4 (rqL l.r))
section
variable {n : Str} {M : Sto} {x bk rq y : Addr} {ra : List Addr} {ls : List LR} {rows : List BRow} {p q : Int} {bs : List Int} {ks : List Kd}
theorem IsN.put {e : Option Ce} (h : IsN n M x bk rq ra ls rows p q bs ks) (h1 : x ≠ y) (h2 : bk ≠ y) (h3 : rq ≠ y) (h4 : ∀ i : Nat, ra[i]? ≠ some y) : IsN n (M.put y e) x bk rq ra ls rows p q bs ks :=
  ⟨by rw [Sto.put_n h1, h.hx], by rw [Sto.put_n h2, h.hb], by rw [Sto.put_n h3, h.hq], h.ln, fun i a l ha hl => by rw [Sto.put_n (fun z => h4 i (by rw [ha, z])), h.at_ i a l ha hl]⟩
theorem IsN.lt (h : IsN n M x bk rq ra ls rows p q bs ks) {i : Nat} {a : Addr} (ha : ra[i]? = some a) : ∃ l, ls[i]? = some l ∧ M a = some (.obj 4 (rqL l.r)) := by
  have li := (List.getElem?_eq_some_iff.mp ha).1
  have hl : ls[i]? = some (ls[i]'(by have := h.ln; omega)) := List.getElem?_eq_getElem _
  exact ⟨_, hl, h.at_ i a _ ha hl⟩
theorem IsN.new {e : Option Ce} (h : IsN n M x bk rq ra ls rows p q bs ks) (hy : M y = none) : IsN n (M.put y e) x bk rq ra ls rows p q bs ks :=
  h.put (fun z => by have := h.hx; rw [z, hy] at this; cases this) (fun z => by have := h.hb; rw [z, hy] at this; cases this) (fun z => by have := h.hq; rw [z, hy] at this; cases this) (fun i z => by
    obtain ⟨l, _, e⟩ := h.lt z
    rw [hy] at e
    cases e)
theorem app_get {α β : Type} {xs : List α} {ys : List β} {a b : α} {c d : β} {i : Nat} (hl : xs.length = ys.length) (h1 : (xs ++ [a])[i]? = some b) (h2 : (ys ++ [c])[i]? = some d) : (xs[i]? = some b ∧ ys[i]? = some d) ∨ (b = a ∧ d = c) := by
  by_cases hi : i < xs.length
  · rw [List.getElem?_append_left hi] at h1
    rw [List.getElem?_append_left (by omega)] at h2
    exact .inl ⟨h1, h2⟩
  · rw [List.getElem?_append_right (by omega)] at h1
    rw [List.getElem?_append_right (by omega)] at h2
    have : i - xs.length = 0 := by
      have := (List.getElem?_eq_some_iff.mp h1).1
      rw [List.length_singleton] at this
      omega
    rw [this] at h1
    rw [← hl, this] at h2
    cases h1
    cases h2
    exact .inr ⟨rfl, rfl⟩
theorem IsN.ask {a : Addr} {l : LR} (h : IsN n M x bk rq ra ls rows p q bs ks) (ha : M a = none) (hd : bk ≠ rq) : IsN n ((M.put a (some (.obj 4 (rqL l.r)))).put rq (some (.lst ((ra ++ [a]).map .cell)))) x bk rq (ra ++ [a]) (ls ++ [l]) rows p q bs ks := by
  have h1 := h.new (e := some (.obj 4 (rqL l.r))) ha
  have naq : a ≠ rq := fun z => by
    have := h.hq
    rw [← z, ha] at this
    cases this
  refine ⟨?_, ?_, Sto.put_s, by rw [List.length_append, List.length_append, h.ln]; rfl, fun i b m e1 e2 => ?_⟩
  · rw [Sto.put_n, h1.hx]
    intro z
    have := h.hx
    rw [z, h.hq] at this
    cases this
  · rw [Sto.put_n hd, h1.hb]
  · rcases app_get h.ln e1 e2 with ⟨e1, e2⟩ | ⟨rfl, rfl⟩
    · rw [Sto.put_n, h1.at_ i b m e1 e2]
      intro z
      obtain ⟨l, _, e⟩ := h.lt e1
      rw [z, h.hq] at e
      cases e
    · rw [Sto.put_n naq, Sto.put_s]
theorem set_get {α : Type} {xs : List α} {i j : Nat} {a b : α} (h : (xs.set i a)[j]? = some b) : (j = i ∧ b = a) ∨ (j ≠ i ∧ xs[j]? = some b) := by
  by_cases e : i = j
  · subst e
    rw [List.getElem?_set_self (by have := (List.getElem?_eq_some_iff.mp h).1; rw [List.length_set] at this; exact this)] at h
    cases h
    exact .inl ⟨rfl, rfl⟩
  · rw [List.getElem?_set_ne e] at h
    exact .inr ⟨fun z => e z.symm, h⟩
theorem nd_get {xs : List Addr} {i j : Nat} {a : Addr} (h : xs.Nodup) (h1 : xs[i]? = some a) (h2 : xs[j]? = some a) : i = j := by
  exact (List.getElem?_inj (List.getElem?_eq_some_iff.mp h1).1 h).mp (h1.trans h2.symm)
theorem IsN.set {a : Addr} {i : Nat} {l : LR} (h : IsN n M x bk rq ra ls rows p q bs ks) (nd : ra.Nodup) (ha : ra[i]? = some a) : IsN n (M.put a (some (.obj 4 (rqL l.r)))) x bk rq ra (ls.set i l) rows p q bs ks := by
  obtain ⟨l0, hl, e0⟩ := h.lt ha
  refine ⟨?_, ?_, ?_, by rw [List.length_set]; exact h.ln, fun j b m e1 e2 => ?_⟩
  · rw [Sto.put_n, h.hx]
    intro z
    have := h.hx
    rw [z, e0] at this
    cases this
  · rw [Sto.put_n, h.hb]
    intro z
    have := h.hb
    rw [z, e0] at this
    cases this
  · rw [Sto.put_n, h.hq]
    intro z
    have := h.hq
    rw [z, e0] at this
    cases this
  · rcases set_get e2 with ⟨rfl, rfl⟩ | ⟨hn, e2⟩
    · rw [ha] at e1
      cases e1
      exact Sto.put_s
    · rw [Sto.put_n, h.at_ j b m e1 e2]
      rintro rfl
      exact hn (nd_get nd e1 ha)
theorem IsN.book {rows' : List BRow} (h : IsN n M x bk rq ra ls rows p q bs ks) (hd : rq ≠ bk) : IsN n (M.put bk (some (.lst (rows'.map rowD)))) x bk rq ra ls rows' p q bs ks := by
  refine ⟨?_, Sto.put_s, by rw [Sto.put_n hd, h.hq], h.ln, fun i b m e1 e2 => ?_⟩
  · rw [Sto.put_n, h.hx]
    intro z
    have := h.hx
    rw [z, h.hb] at this
    cases this
  · rw [Sto.put_n, h.at_ i b m e1 e2]
    rintro rfl
    have := h.at_ i b m e1 e2
    rw [h.hb] at this
    cases this
theorem IsN.vw (h : IsN n M x bk rq ra ls rows p q bs ks) : vwD 3 M (.cell x) = issD n p q bs ks rows ls := by
  rw [vw_obj h.hx rfl]
  unfold isL issD
  simp only [List.map_cons, List.map_nil]
  rw [vw_lst h.hq, vw_lst h.hb, vwRows, vw_s, vw_t]
  have eg : vwD 2 M (grpD p q bs) = grpD p q bs := vw_o
  rw [eg]
  have e : (ra.map Dat.cell).map (vwD 1 M) = ls.map fun l => .obj 4 (rqL l.r) := by
    refine List.ext_getElem? fun i => ?_
    rw [List.getElem?_map, List.getElem?_map, List.getElem?_map]
    cases ha : ra[i]? with
    | none => rw [List.getElem?_eq_none (by have := List.getElem?_eq_none_iff.mp ha; have := h.ln; omega)]; rfl
    | some a =>
      obtain ⟨l, hl, ea⟩ := h.lt ha
      rw [hl]
      show some (vwD 1 M (.cell a)) = some (Dat.obj 4 (rqL l.r))
      rw [vw_obj ea rfl]
      unfold rqL mvL kdO
      simp only [List.map_cons, List.map_nil, vw_t, vw_i, vw_s, vw_o, vw_dr]
  rw [e]
end
abbrev s__law_granted : Stmt := top 66
theorem sc__law_granted : FnScope ["pool", "group", "issuer", "kind", "randomness", "secret", "numbers", "day", "element", "tape", "number", "challenge", "replies"] ["pool", "group", "issuer", "kind", "randomness", "secret", "numbers", "day"] (defScope s__law_granted) := ⟨rfl, rfl, rfl, by decide +kernel, rfl, by decide +kernel, by decide +kernel⟩
structure Bn (p q : Int) (bs : List Int) (b0 b1 : Int) (bt : List Int) (ks : List Kd) : Prop where
  gk : GOk p q bs
  eb : bs = b0 :: b1 :: bt
  l6 : 6 ≤ bs.length
  kok : KsOk ks
  qm : q < 100000
theorem Bn.rt {p q b0 b1 : Int} {bs bt : List Int} {ks : List Kd} (h : Bn p q bs b0 b1 bt ks) : b0 ^ q.toNat % p = 1 ∧ b1 ^ q.toNat % p = 1 := by
  have e := h.eb
  exact ⟨(h.gk.el b0 (by rw [e]; exact List.mem_cons_self)).2.2.2, (h.gk.el b1 (by rw [e]; exact List.mem_cons_of_mem _ List.mem_cons_self)).2.2.2⟩
theorem Bn.q1 {p q b0 b1 : Int} {bs bt : List Int} {ks : List Kd} (h : Bn p q bs b0 b1 bt ks) : 1 < q := by
  have := h.gk.qp.1
  omega
section
variable {P : Program} {w : World} {K : PySem.W.Frag} {mg : Str → Option Value} {base : Heap} {ca : Nat → Addr}
def bspGt : BSp := fun ds M X P => ∃ (x bk rq : Addr) (n : Str) (ra : List Addr) (ls : List LR) (rows : List BRow) (p q b0 b1 r s day : Int) (bs bt vs : List Int) (ks : List Kd) (kn : Str) (kf : List Fld), ds = [.pool, lgD p q bs, .cell x, .str kn, .int r, .int s, .lst (vs.map .int), .int day] ∧ IsN n M x bk rq ra ls rows p q bs ks ∧ Bn p q bs b0 b1 bt ks ∧ (ra.Nodup ∧ bk ≠ rq ∧ ra.length ≤ 100 ∧ rows.length ≤ 100) ∧ ((kn, kf) ∈ ks ∧ mayH kf vs = true ∧ (0 ≤ r ∧ r < q) ∧ (0 ≤ s ∧ s < q)) ∧
  ∀ ra' ls' el M', IsN n M' x bk rq ra' ls' (rows ++ [⟨kn, el, day, none⟩]) p q bs ks → ra'.Nodup → ra'.length = ra.length + 1 → P (.int (rows.length : Nat)) M'
theorem ok_law_granted {f : Addr} {fd : FuncData} (F : Fun K "_law_granted" "_law_granted" s__law_granted f fd) (T5 : IsT K (ca 5)) (B : Blt mg) (C__law_draw : C8.Cal P w K mg base 1 "_law_draw" (toSp K ca aspDraw) []) (C__law_numbers : C8.Cal P w K mg base 2 "_law_numbers" (toSp K ca aspLNumbers) []) (C__law_commit : C8.Cal P w K mg base 4 "_law_commit" (toSp K ca aspLCommit) [])
    (M_ask : C8.Met P w K mg base 4 (ca 5) "ask" (toSp2 K ca (bspZ bspAsk)) []) (M_challenge : C8.Met P w K mg base 4 (ca 5) "challenge" (toSp2 K ca (bspZ bspChal)) []) (M_grant : C8.Met P w K mg base 9 (ca 5) "grant" (toSp2 K ca (bspZ bspGrant)) []) : FnOk P w K mg base CX0 15 f fd ["pool", "group", "issuer", "kind", "randomness", "secret", "numbers", "day"] (toSp2 K ca bspGt) := by
  refine F.ok sc__law_granted (fun vs H Q E h => sp_len2 (n := 8) (fun ds M X P a => by obtain ⟨_, _, _, _, _, _, _, _, _, _, _, _, _, _, _, _, _, _, _, _, rfl, _⟩ := a; rfl) h) (fun cdv A outer s H vs Q E hr h => ⟨_, (pss_cons (ps_set (i := 8) sc__law_granted.nd rfl (.inl rfl) (C8.pe_c C__law_commit hr (by omega) rfl (pa_cons (pv 1) (pa_cons (pe_lst (pa_cons (pv 4) (pa_cons (pv 5) pa_nil))) pa_nil))))
      (pss_cons (ps_set (i := 9) sc__law_granted.nd rfl (.inl rfl) (C8.pe_c C__law_numbers hr (by omega) rfl (pa_cons (pv 0) (pa_cons (pv 1) (pa_cons pe_int pa_nil)))))
      (pss_cons (ps_set (i := 10) sc__law_granted.nd rfl (.inl rfl) (C8.pe_mt M_ask hr (by omega) (pv 2) (pa_cons (pv 3) (pa_cons (pv 8) (pa_cons (pe_tupF (pa_cons (pe_tupF (pa_cons (C8.pe_c C__law_commit hr (by omega) rfl (pa_cons (pv 1) (pa_cons (pv 9) pa_nil))) pa_nil)) (pa_cons (pe_tupF pa_nil) pa_nil))) pa_nil)))))
      (pss_cons (ps_set (i := 11) sc__law_granted.nd rfl (.inl rfl) (C8.pe_c C__law_draw hr (by omega) rfl (pa_cons (pv 0) (pa_cons (pe_ix (kixs (K := K) rfl) (pv 1) pe_int (fun _ _ => rfl)) pa_nil))))
      (pss_cons (ps_expr (C8.pe_mt M_challenge hr (by omega) (pv 2) (pa_cons (pv 10) (pa_cons (pv 11) pa_nil))))
      (pss_cons (ps_set (i := 12) sc__law_granted.nd rfl (.inl rfl) (pe_tupF (pa_cons (pe_op op_mod (pe_callTy call_int1 (by rfl) B.int bt_int (pa_cons (pe_op op_add (pe_ix (kixs (K := K) rfl) (pv 9) pe_int (fun _ _ => rfl)) (pe_op op_mul (pv 11) (pv 4))) pa_nil)) (pe_ix (kixs (K := K) rfl) (pv 1) pe_int (fun _ _ => rfl))) (pa_cons (pe_op op_mod (pe_callTy call_int1 (by rfl) B.int bt_int (pa_cons (pe_op op_add (pe_ix (kixs (K := K) rfl) (pv 9) pe_int (fun _ _ => rfl)) (pe_op op_mul (pv 11) (pv 5))) pa_nil)) (pe_ix (kixs (K := K) rfl) (pv 1) pe_int (fun _ _ => rfl))) pa_nil))))
      (pss_one (ps_ret (C8.pe_mt M_grant hr (by omega) (pv 2) (pa_cons (pv 10) (pa_cons (pe_tupF (pa_cons (pv 12) (pa_cons (pe_tupF pa_nil) pa_nil))) (pa_cons (pv 6) (pa_cons (pv 7) pa_nil))))))))))))),
    fn_run2 h (fun po => (z_seq (z_set fun _ => (b_up fun _ => (a_call (a_cons a_var (a_cons (a_fz (a_lst (a_cons a_var (a_cons a_var a_nil)))) a_nil)))))
      (z_seq (z_set fun _ => (b_up fun _ => (a_call (a_cons a_var (a_cons a_var (a_cons a_int a_nil))))))
      (z_seq (z_set fun _ => (b_meth2 (c := 5) (by decide) (b_up fun _ => a_var) (b_upA fun _ => (a_cons a_var (a_cons a_var (a_cons (a_tup (a_cons (a_tup (a_cons (a_call (a_cons a_var (a_cons a_var a_nil))) a_nil)) (a_cons (a_tup a_nil) a_nil))) a_nil))))))
      (z_seq (z_set fun _ => (b_up fun _ => (a_call (a_cons a_var (a_cons (a_op pst_pk rok_ix (a_pk a_var) a_int) a_nil)))))
      (z_seq (z_drop fun _ => (b_meth2 (c := 5) (by decide) (b_up fun _ => a_var) (b_upA fun _ => (a_cons a_var (a_cons a_var a_nil)))))
      (z_seq (z_set fun _ => (b_up fun _ => (a_tup (a_cons (a_op pst_rv rok_I (a_b1 u_int (a_op pst_rv rok_I0 (a_op pst_pk rok_ix (a_pk a_var) a_int) (a_op pst_rv rok_I a_var a_var))) (a_op pst_pk rok_ix (a_pk a_var) a_int)) (a_cons (a_op pst_rv rok_I (a_b1 u_int (a_op pst_rv rok_I0 (a_op pst_pk rok_ix (a_pk a_var) a_int) (a_op pst_rv rok_I a_var a_var))) (a_op pst_pk rok_ix (a_pk a_var) a_int)) a_nil)))))
      (z_ret fun _ => (b_meth2 (c := 5) (by decide) (b_up fun _ => a_var) (b_upA fun _ => (a_cons a_var (a_cons (a_tup (a_cons a_var (a_cons (a_tup a_nil) a_nil))) (a_cons a_var (a_cons a_var a_nil)))))))))))))) (fun ds M X P a => by obtain ⟨_, _, _, _, _, _, _, _, _, _, _, _, _, _, _, _, _, _, _, _, rfl, _⟩ := a; exact Nat.le_of_ble_eq_true rfl) ?_⟩)
  rintro ds M X P ⟨x, bk, rq, n, ra, ls, rows, p, q, b0, b1, r, s, day, bs, bt, vs, ks, kn, kf, rfl, st, bd, ⟨nd, d1, lr, lw⟩, ⟨mk, mh, r0, s0⟩, hp⟩
  have gk := bd.gk
  have eb := bd.eb
  have l6 := bd.l6
  have qm := bd.qm
  have q1 := bd.q1
  have p1 := gk.p0
  have pm := gk.pm
  have lm := gk.lm
  have k4 : kf.length ≤ 4 := (bd.kok.fs _ mk).1
  have lv : vs.length = kf.length := by
    have := mh
    unfold mayH at this
    rw [Bool.and_eq_true] at this
    exact of_decide_eq_true this.1
  refine zseqG fun N hN => ?_
  unfold lgD
  walk_at "wq"
  refine ⟨false, p, q, bs, [r, s], rfl, by omega, by omega, by omega, by omega, by simp only [List.length_cons, List.length_nil]; omega, Nat.le_of_ble_eq_true rfl, ?_⟩
  rw [eb, zip2, ← eb]
  subst hN
  refine zseqG fun N hN => ?_
  walk_at "wq"
  refine ⟨p, q, 2, bs, rfl, by omega, by omega, by decide, by decide, fun ns ln hn => ?_⟩
  obtain ⟨t0, t1, rfl⟩ : ∃ t0 t1, ns = [t0, t1] := by
    match ns, ln with
    | [t0, t1], _ => exact ⟨t0, t1, rfl⟩
    | [], h => cases h
    | [_], h => cases h
    | _ :: _ :: _ :: _, h => exact absurd h (by simp only [List.length_cons]; omega)
  have ht0 := hn t0 List.mem_cons_self
  have ht1 := hn t1 (List.mem_cons_of_mem _ List.mem_cons_self)
  subst hN
  refine zseqG fun N hN => ?_
  walk_at "wq"
  rw [st.hx]
  unfold isL
  walk_at "wq"
  refine ⟨false, p, q, bs, [t0, t1], rfl, by omega, by omega, by omega, by omega, by simp only [List.length_cons, List.length_nil]; omega, Nat.le_of_ble_eq_true rfl, ?_⟩
  rw [eb, zip2, ← eb]
  have fk := gk_find (l := bs.length) bd.kok mk (by omega)
  refine ⟨x, bk, rq, n, kn, prZ p q [(b0, r), (b1, s)], p, q, bs, [prZ p q [(b0, t0), (b1, t1)]], ks, ra, rfl, st.hx, st.hq, ⟨by omega, by omega, by omega, by omega⟩, (fun z => by rw [fk] at z; cases z), fun k ek => ?_⟩
  rw [fk] at ek
  cases ek
  refine ⟨fun z => absurd (prZ_El p1 q1 bd.rt.1 bd.rt.2) z, fun _ ad had => ?_⟩
  obtain ⟨l0, e0⟩ : ∃ l0 : LR, l0 = ⟨⟨kn, kf, prZ p q [(b0, r), (b1, s)], [prZ p q [(b0, t0), (b1, t1)]], none, "asked"⟩, [], []⟩ := ⟨_, rfl⟩
  have is1 := st.ask (l := l0) had d1
  have e0r : l0.r = ⟨kn, kf, prZ p q [(b0, r), (b1, s)], [prZ p q [(b0, t0), (b1, t1)]], none, "asked"⟩ := by rw [e0]
  rw [← e0r]
  have nd1 : (ra ++ [ad]).Nodup := by
    refine List.nodup_append.mpr ⟨nd, List.nodup_cons.mpr ⟨(fun z => nomatch z), List.nodup_nil⟩, fun a ha b hb => ?_⟩
    obtain rfl := List.mem_singleton.mp hb
    intro z
    subst z
    obtain ⟨i, hi⟩ := List.mem_iff_getElem?.mp ha
    obtain ⟨l, _, e⟩ := st.lt hi
    rw [had] at e
    cases e
  have ha : (ra ++ [ad])[ra.length]? = some ad := List.getElem?_concat_length
  have hl0 : (ls ++ [l0])[ra.length]? = some l0 := by rw [st.ln]; exact List.getElem?_concat_length
  have lr1 : (ra ++ [ad]).length = ra.length + 1 := by rw [List.length_append]; rfl
  generalize ((M.put ad (some (.obj 4 (rqL l0.r)))).put rq (some (.lst ((ra ++ [ad]).map .cell)))) = M1 at is1 ⊢
  generalize ra ++ [ad] = ra1 at is1 nd1 ha lr1 ⊢
  have hd := is1.at_ _ _ _ ha hl0
  subst hN
  refine zseqG fun N hN => ?_
  walk_at "wq"
  refine draw (by omega) (by omega) fun c c0 c1 => ?_
  subst hN
  refine zseqG fun N hN => ?_
  walk_at "wq"
  rw [is1.hx]
  unfold isL
  walk_at "wq"
  refine ⟨x, bk, rq, n, ra.length, c, p, q, bs, ks, ra1, rfl, is1.hx, is1.hq, fun z => absurd ⟨by omega, by omega⟩ z, fun i ad' hi ha' => ?_⟩
  obtain rfl : ra.length = i := by omega
  rw [ha] at ha'
  cases ha'
  refine ⟨_, hd, fun z => absurd (by rw [e0r]) z, fun _ => ⟨fun z => absurd ⟨c0, c1⟩ z, fun _ => ?_⟩⟩
  obtain ⟨l1, e1⟩ : ∃ l1 : LR, l1 = { l0 with r := { l0.r with dr := some c, st := "challenged" } } := ⟨_, rfl⟩
  have e1r : l1.r = { l0.r with dr := some c, st := "challenged" } := by rw [e1]
  have is2 := is1.set (l := l1) nd1 ha
  rw [← e1r]
  have hd1 : (M1.put ad (some (.obj 4 (rqL l1.r)))) ad = some (.obj 4 (rqL l1.r)) := Sto.put_s
  generalize M1.put ad (some (.obj 4 (rqL l1.r))) = M2 at is2 hd1 ⊢
  subst hN
  refine zseqG fun N hN => ?_
  walk_at "wq"
  have hcm : ∀ z : Int, 0 ≤ z ∧ z < q → CMul c z := fun z hz => .inr ⟨by omega, by omega⟩
  refine ⟨hcm _ r0, by omega, hcm _ s0, by omega, ?_⟩
  subst hN
  walk_at "wq"
  rw [is2.hx]
  unfold isL
  walk_at "wq"
  have bt4 : bs.length = bt.length + 2 := by
    have := congrArg List.length eb
    simp only [List.length_cons] at this
    omega
  refine ⟨x, bk, rq, n, ra.length, day, p, q, bs, [(t0 + c * r) % q, (t1 + c * s) % q], vs, ks, ra1, rows, rfl, is2.hx, is2.hq, is2.hb, ⟨by omega, by omega, by omega, by omega, by omega, by omega, Nat.le_of_ble_eq_true rfl, by omega⟩, fun z => absurd ⟨by omega, by omega⟩ z, fun i ad' hi ha' => ?_⟩
  obtain rfl : ra.length = i := by omega
  rw [ha] at ha'
  cases ha'
  have k1 : l1.r.kf = kf := by rw [e1r, e0r]
  refine ⟨l1.r, hd1, fun z => absurd (by rw [e1r]) z, fun _ => ⟨⟨by rw [k1]; omega, by rw [e1r, e0r]; exact Nat.le_of_ble_eq_true rfl⟩, fun z => by rw [k1] at z; exact absurd (mh.symm.trans z) (by decide), fun _ => ⟨c, by rw [e1r], fun z => absurd ?_ z, fun _ => ?_⟩⟩⟩
  · rw [e1r, e0r, eb]
    exact reply_fits q1 p1 bd.rt.1 bd.rt.2 rfl ⟨c0, c1⟩
  obtain ⟨l2, e2⟩ : ∃ l2 : LR, l2 = { l1 with r := { l1.r with st := "granted" } } := ⟨_, rfl⟩
  have e2r : l2.r = { l1.r with st := "granted" } := by rw [e2]
  obtain ⟨el, er⟩ : ∃ el, rowOf p q bs l1.r vs day = ⟨kn, el, day, none⟩ := ⟨_, by rw [e1r, e0r]; rfl⟩
  have is3 := (is2.set (l := l2) nd1 ha).book (rows' := rows ++ [⟨kn, el, day, none⟩]) (Ne.symm d1)
  rw [er, ← e2r]
  walk_at "wq"
  exact hp ra1 _ el _ is3 nd1 lr1
end
def bMake3 (c : Nat) (bsp : BSp) (ba : BFr) : BEx := fun env M X P => ba env M X fun ds M' => ∀ x, M' x = none → bsp (.cell x :: ds) (M'.put x (some (.obj c []))) X0 fun d M2 => d = .non ∧ P (.cell x) M2
theorem b_make3 {K : PySem.W.Frag} {ca : Nat → Addr} {po : Option (Addr × Addr)} {H0 : Hp} {E : XS} {n c : Nat} {t : TA} {E' : XS} {ba : BFr} {bsp : BSp} (h : BArg ⟨K, ca, po⟩ H0 E n t ba) : BExp ⟨K, ca, po⟩ H0 E (tMakeS (ca c) (toSpI2 K ca c bsp) E' t) (bMake3 c bsp ba) :=
  ⟨fun σ env F H M Q P X cf q k => h.run σ env F H M _ _ X cf q fun ds F1 H1 vs M1 p1 x1 r1 _ => fun x dx hx hdx hne =>
    ⟨po, F1, H1, x, dx, vs, M1, ds, _, X0, rfl, rfl, hx, hdx, hne, x1.ok, r1, p1 x (x1.ok.new hx), .zero, fun d F' H' M' v p y r => by
      obtain ⟨rfl, p⟩ := p
      cases r
      exact ⟨rfl, k (.cell x) F' H' (.ref x) M' p (x1.trans y) (.cell x)⟩⟩⟩
abbrev s__law_issuer : Stmt := top 67
theorem sc__law_issuer : FnScope ["pool", "group", "kinds", "name", "own", "rows", "way", "place", "fields", "strange", "issuer", "turn", "kind", "numbers", "opening", "index", "field", "size"] ["pool", "group", "kinds", "name"] (defScope s__law_issuer) := ⟨rfl, rfl, rfl, by decide +kernel, rfl, by decide +kernel, by decide +kernel⟩
structure IqOk (n : Str) (p q : Int) (i : Iq) : Prop where
  n_ : i.n = n
  p_ : i.p = p
  q_ : i.q = q
  lr : i.rows.length ≤ 5
  ko : ∀ k ∈ i.ks, KdOk k.1 k.2
  sr : ∀ r ∈ i.rows, PyData.strOk r.kn = true
def liD (bs : List Int) (i : Iq) : Dat := .tup [iqD i, .bl (decide (i.bs = bs)), .lst (i.ks.map kdT)]
structure FsOk (m : Nat) (n : Str) (fs : List Fld) : Prop where
  sn : PyData.strOk n = true
  ln : fs.length ≤ m
  sf : ∀ f ∈ fs, PyData.strOk f.1 = true
theorem FsOk.mono {m m' : Nat} {n : Str} {fs : List Fld} (h : FsOk m n fs) (l : m ≤ m') : FsOk m' n fs := ⟨h.sn, by have := h.ln; omega, h.sf⟩
theorem fs_ok {ks : List Kd} (h : KsOk ks) {k : Kd} (m : k ∈ ks) : FsOk 4 k.1 k.2 := by
  have f := (h.fs _ m).1
  have g := kd_ok (kn := k.1) (kf := k.2) h m
  exact ⟨g.sn, by omega, g.sf⟩
theorem cutF {fs : List Fld} (a b : Option Int) : ∃ gs : List Fld, cutD (fs.map fmD) a b = gs.map fmD ∧ gs.length ≤ fs.length ∧ ∀ f ∈ gs, f ∈ fs :=
  ⟨_, by unfold cutD; rw [← List.map_drop, ← List.map_take], by rw [List.length_take, List.length_drop]; omega, fun f hf => List.mem_of_mem_drop (List.mem_of_mem_take hf)⟩
theorem cut1_len {xs : List Dat} : (cutD xs (some (-1)) none).length ≤ 1 := by
  have e : HT.sIx xs.length 0 (some (-1)) = xs.length - 1 := by
    show (if (-1 : Int) < 0 then ((-1 : Int) + (xs.length : Int)).toNat else min (-1 : Int).toNat xs.length) = _
    rw [if_pos (by decide)]
    omega
  unfold cutD
  rw [e, List.length_take, List.length_drop]
  omega
theorem nc_ints {xs : List Int} : ncAll (xs.map .int) = true := ncAll_map fun _ _ => rfl
theorem nc_grp {p q : Int} {bs : List Int} : ncD (grpD p q bs) = true := by
  show (true && (true && (ncAll (bs.map .int) && true))) = true
  rw [nc_ints]
  rfl
theorem nc_fms {fs : List Fld} : ncAll (fs.map fmD) = true := ncAll_map fun _ _ => rfl
theorem nc_kdP {k : Kd} : ncD (kdP k) = true := by
  show (true && (ncAll (k.2.map fmD) && true)) = true
  rw [nc_fms]
  rfl
theorem nc_kds {ks : List Kd} : ncAll (ks.map kdP) = true := ncAll_map fun _ _ => nc_kdP
theorem nc_row {r : BRow} : ncD (rowD r) = true := by
  unfold rowD
  cases h : r.rev <;> rfl
theorem nc_rqL {r : Rq} : ncAll (rqL r) = true := by
  show (ncD (kdP (r.kn, r.kf)) && (true && (((ncAll (r.ms.map .int)) && (true && true)) && (ncD (drD r.dr) && (true && true))))) = true
  rw [nc_kdP, nc_ints]
  cases h : r.dr <;> rfl
theorem IsN.vx {n : Str} {M : Sto} {x bk rq : Addr} {ra : List Addr} {ls : List LR} {rows : List BRow} {p q : Int} {bs : List Int} {ks : List Kd} (h : IsN n M x bk rq ra ls rows p q bs ks) : vwX 3 M (.cell x) = issD n p q bs ks rows ls := by
  rw [vx_obj h.hx rfl]
  unfold isL issD
  have er : (rows.map rowD).map (vwX 1 M) = rows.map rowD := vx_ncA (ncAll_map fun _ _ => nc_row)
  have eq : (ra.map Dat.cell).map (vwX 1 M) = ls.map fun l => .obj 4 (rqL l.r) := by
    refine List.ext_getElem? fun i => ?_
    rw [List.getElem?_map, List.getElem?_map, List.getElem?_map]
    cases ha : ra[i]? with
    | none => rw [List.getElem?_eq_none (by have := List.getElem?_eq_none_iff.mp ha; have := h.ln; omega)]; rfl
    | some a =>
      obtain ⟨l, hl, ea⟩ := h.lt ha
      rw [hl]
      show some (vwX 1 M (.cell a)) = some (Dat.obj 4 (rqL l.r))
      rw [vx_obj ea rfl, vx_ncA nc_rqL]
  have e1 : vwX 2 M (.tup (ks.map kdP)) = .tup (ks.map kdP) := vx_nc (show ncAll (ks.map kdP) = true from nc_kds)
  simp only [List.map_cons, List.map_nil]
  rw [vx_s, vx_nc nc_grp, vx_lst h.hb, vx_lst h.hq, er, eq, e1]
theorem SlsX.refl {M : Sto} : ∀ {ss : List Sl}, SlsX M ss ss
  | [] => .nil
  | _ :: _ => .cons (.inl rfl) SlsX.refl
theorem SlsX.at_ {M : Sto} {n : Nat} {d : Dat} : ∀ {ss : List Sl} {i : Nat}, ss[i]? = some (.d d) → SlsX M ss (ss.set i (.d (vwX n M d)))
  | [], _, h => by cases h
  | s :: ss, 0, h => by
    cases h
    exact .cons (.inr ⟨n, d, rfl, rfl⟩) SlsX.refl
  | s :: ss, i + 1, h => .cons (.inl rfl) (SlsX.at_ (i := i) h)
section
variable {P : Program} {w : World} {K : PySem.W.Frag} {mg : Str → Option Value} {base : Heap} {ca : Nat → Addr}
def aspLIss : ASp := fun ds P => ∃ (p q : Int) (bs : List Int) (ks : List Kd) (n : Str), ds = [.pool, lgD p q bs, .lst (ks.map kdT), .str n] ∧ GOk p q bs ∧ 6 ≤ bs.length ∧ q < 100000 ∧ KsOk ks ∧ ∀ i : Iq, IqOk n p q i → P (liD bs i)
theorem ok_law_issuer {f : Addr} {fd : FuncData} (F : Fun K "_law_issuer" "_law_issuer" s__law_issuer f fd) (T5 : IsT K (ca 5)) (B : Blt mg) (C__law_draw : C8.Cal P w K mg base 1 "_law_draw" (toSp K ca aspDraw) []) (C__law_numbers : C8.Cal P w K mg base 2 "_law_numbers" (toSp K ca aspLNumbers) []) (C__law_granted : C8.Cal P w K mg base 15 "_law_granted" (toSp2 K ca bspGt) []) (K_Kind : C8.Mak P w K mg base 1 "Kind" (ca 3) (toSpI K ca 3 aspKdI) []) (K_Group : C8.Mak P w K mg base 4 "Group" (ca 0) (toSpI K ca 0 aspGroupI) []) (MX_Issuer : MakX P w K mg base 1 "Issuer" (ca 5) (toSpI2 K ca 5 bspIssI))
    (M_revoke : C8.Met P w K mg base 3 (ca 5) "revoke" (toSp2 K ca (bspZ bspRevoke)) []) : FnOk P w K mg base CX0 16 f fd ["pool", "group", "kinds", "name"] (toSp K ca aspLIss) := by
  refine F.ok sc__law_issuer (fun vs H Q E h => sp_len (n := 4) (fun ds P a => by obtain ⟨_, _, _, _, _, rfl, _⟩ := a; rfl) h) (fun cdv A outer s H vs Q E hr h => ⟨_, (pss_cons (ps_set (i := 4) sc__law_issuer.nd rfl (.inl rfl) (pv 1))
      (pss_cons (ps_set (i := 5) sc__law_issuer.nd rfl (.inl rfl) (pe_callTy (klist (K := K) rfl) (by rfl) B.list bt_list (pa_cons (pv 2) pa_nil)))
      (pss_cons (ps_set (i := 6) sc__law_issuer.nd rfl (.inl rfl) (C8.pe_c C__law_draw hr (by omega) rfl (pa_cons (pv 0) (pa_cons pe_int pa_nil))))
      (C8.pss_cut (ps_if (pt_cmpR op_eq (pv 6) pe_int (nomark _)) (pss_one (ps_set (i := 4) sc__law_issuer.nd rfl (.inl rfl) (pe_tupF (pa_cons (pe_ix (kixs (K := K) rfl) (pv 1) pe_int (fun _ _ => rfl)) (pa_cons (pe_ix (kixs (K := K) rfl) (pv 1) pe_int (fun _ _ => rfl)) (pa_cons (krevL (K := K) rfl (pe_ix (kixs (K := K) rfl) (pv 1) pe_int (fun _ _ => rfl))) pa_nil)))))) pss_nil)
      (C8.pss_cut (ps_if (pt_cmpR op_eq (pv 6) pe_int (nomark _)) (pss_cons (ps_set (i := 7) sc__law_issuer.nd rfl (.inl rfl) (C8.pe_c C__law_draw hr (by omega) rfl (pa_cons (pv 0) (pa_cons (pe_callB (klen (K := K) rfl) (by rfl) B.len bt_len (pa_cons (pv 5) pa_nil)) pa_nil))))
      (pss_cons (ps_set (i := 8) sc__law_issuer.nd rfl (.inl rfl) (pe_ix (kixs (K := K) rfl) (pe_ix (kixs (K := K) rfl) (pv 5) (pv 7) (fun _ _ => rfl)) pe_int (fun _ _ => rfl)))
      (pss_cons (ps_set (i := 9) sc__law_issuer.nd rfl (.inl rfl) (pe_lst (pa_cons (pe_slice (kslF (K := K) rfl) (pe_op (kcatF (K := K) rfl) (pv 8) (pe_tupF (pa_cons (pe_tupF (pa_cons pe_str (pa_cons pe_int pa_nil))) pa_nil))) (po_some (pe_un un_neg pe_int)) po_none) (pa_cons (pe_op (kcatF (K := K) rfl) (pe_slice (kslF (K := K) rfl) (pv 8) po_none (po_some (pe_un un_neg pe_int))) (pe_tupF (pa_cons (pe_tupF (pa_cons pe_str (pa_cons pe_int pa_nil))) pa_nil))) (pa_cons (pe_op (kcatF (K := K) rfl) (pe_slice (kslF (K := K) rfl) (pv 8) po_none (po_some (pe_un un_neg pe_int))) (pe_callTy (ktupF (K := K) rfl) (by rfl) B.tuple bt_tuple (pa_cons (pe_lc (own := [("name", 3), ("size", 17)]) (tt := tYes) rfl sc__law_issuer.nd (kpit (K := K) rfl (pe_slice (kslF (K := K) rfl) (pv 8) (po_some (pe_un un_neg pe_int)) po_none)) (blkOk_by (N := ["pool", "group", "kinds", "name", "own", "rows", "way", "place", "fields", "strange", "issuer", "turn", "kind", "numbers", "opening", "index", "field", "size"]) (sc := defScope s__law_issuer) (by decide +kernel))
        (fun _ _ _ _ _ => (kgtup (K := K) (n := 2) rfl rfl (pgs_cons (pg_name (i := 3) sc__law_issuer.nd rfl (.inl rfl)) (pgs_cons (pg_name (i := 17) sc__law_issuer.nd rfl (.inl rfl)) pgs_nil)))) (fun _ _ _ _ _ => pts_nil)
        (fun _ _ _ _ _ => (pe_tupF (pa_cons (pv 3) (pa_cons (pe_op op_add pe_int (pe_op op_mod (pv 17) pe_int)) pa_nil))))) pa_nil))) (pa_cons (pe_slice (kslF (K := K) rfl) (pv 8) po_none (po_some (pe_un un_neg pe_int))) pa_nil))))))
      (pss_one (ps_asg (pe_tupF (pa_cons (pe_ix (kixs (K := K) rfl) (pe_ix (kixs (K := K) rfl) (pv 5) (pv 7) (fun _ _ => rfl)) pe_int (fun _ _ => rfl)) (pa_cons (pe_ix (kixs (K := K) rfl) (pv 9) (C8.pe_c C__law_draw hr (by omega) rfl (pa_cons (pv 0) (pa_cons pe_int pa_nil))) (fun _ _ => rfl)) pa_nil))) (pg_sub (pv 5) (pv 7) set_list)))))) pss_nil)
      (C8.pss_cut (ps_if (pt_cmpR op_eq (pv 6) pe_int (nomark _)) (pss_one (ps_set (i := 5) sc__law_issuer.nd rfl (.inl rfl) (pe_slice (ksll (K := K) rfl) (pv 5) (po_some pe_int) po_none))) pss_nil)
      (pss_cons (ps_set (i := 10) sc__law_issuer.nd rfl (.inl rfl) (by exact (pe_mkX MX_Issuer takes0 hr (by omega) rfl (pa_cons (pv 3) (pa_cons (C8.pe_mk K_Group hr (by omega) rfl (pa_cons (pe_ix (kixs (K := K) rfl) (pv 4) pe_int (fun _ _ => rfl)) (pa_cons (pe_ix (kixs (K := K) rfl) (pv 4) pe_int (fun _ _ => rfl)) (pa_cons (pe_ix (kixs (K := K) rfl) (pv 4) pe_int (fun _ _ => rfl)) pa_nil)))) (pa_cons (pe_lc (own := [("kind", 12), ("fields", 8)]) (tt := tYes) rfl sc__law_issuer.nd (kpil (K := K) rfl (pv 5)) (blkOk_by (N := ["pool", "group", "kinds", "name", "own", "rows", "way", "place", "fields", "strange", "issuer", "turn", "kind", "numbers", "opening", "index", "field", "size"]) (sc := defScope s__law_issuer) (by decide +kernel))
        (fun _ _ _ _ _ => (kgtup (K := K) (n := 2) rfl rfl (pgs_cons (pg_name (i := 12) sc__law_issuer.nd rfl (.inl rfl)) (pgs_cons (pg_name (i := 8) sc__law_issuer.nd rfl (.inl rfl)) pgs_nil)))) (fun _ _ _ _ _ => pts_nil)
        (fun _ _ _ _ _ => (C8.pe_mk K_Kind hr (by omega) rfl (pa_cons (pv 12) (pa_cons (pv 8) pa_nil))))) pa_nil))))))
      (pss_cons (ps_for PassesOwn.never rfl (pi_range1 rfl B.range (pa_cons (C8.pe_c C__law_draw hr (by omega) rfl (pa_cons (pv 0) (pa_cons pe_int pa_nil))) pa_nil)) (pg_name (i := 11) sc__law_issuer.nd rfl (.inl rfl))
      (pss_one (ps_if (PW.pt (pw_and (pt_cmpR op_gt (pe_callB (klen (K := K) rfl) (by rfl) B.len bt_len (pa_cons (pv 5) pa_nil)) pe_int (nomark _)) (pw_and1 (pt_cmpR op_lt pe_int (pv 6) (nomark _))))) (pss_cons (ps_asg (pe_ix (kixs (K := K) rfl) (pv 5) (C8.pe_c C__law_draw hr (by omega) rfl (pa_cons (pv 0) (pa_cons (pe_callB (klen (K := K) rfl) (by rfl) B.len bt_len (pa_cons (pv 5) pa_nil)) pa_nil))) (fun _ _ => rfl)) (kgtup (K := K) (n := 2) rfl rfl (pgs_cons (pg_name (i := 12) sc__law_issuer.nd rfl (.inl rfl)) (pgs_cons (pg_name (i := 8) sc__law_issuer.nd rfl (.inl rfl)) pgs_nil))))
      (pss_cons (ps_setLc (i := 13) (own := [("field", 16), ("size", 17)]) (tt := tYes) rfl sc__law_issuer.nd rfl rfl (sw_true rfl rfl rfl (by decide +kernel)) (kpit (K := K) rfl (pv 8)) (blkOk_by (N := ["pool", "group", "kinds", "name", "own", "rows", "way", "place", "fields", "strange", "issuer", "turn", "kind", "numbers", "opening", "index", "field", "size"]) (sc := defScope s__law_issuer) (by decide +kernel))
        (fun _ _ _ _ _ => (kgtup (K := K) (n := 2) rfl rfl (pgs_cons (pg_name (i := 16) sc__law_issuer.nd rfl (.inl rfl)) (pgs_cons (pg_name (i := 17) sc__law_issuer.nd rfl (.inl rfl)) pgs_nil)))) (fun _ _ _ _ _ => pts_nil)
        (fun _ _ _ _ _ => (C8.pe_c C__law_draw hr (by omega) rfl (pa_cons (pv 0) (pa_cons (pv 17) pa_nil)))))
      (pss_cons (ps_set (i := 14) sc__law_issuer.nd rfl (.inl rfl) (C8.pe_c C__law_numbers hr (by omega) rfl (pa_cons (pv 0) (pa_cons (pv 4) (pa_cons pe_int pa_nil)))))
      (pss_one (ps_expr (C8.pe_c C__law_granted hr (by omega) rfl (pa_cons (pv 0) (pa_cons (pv 4) (pa_cons (pv 10) (pa_cons (pv 12) (pa_cons (pe_ix (kixs (K := K) rfl) (pv 14) pe_int (fun _ _ => rfl)) (pa_cons (pe_ix (kixs (K := K) rfl) (pv 14) pe_int (fun _ _ => rfl)) (pa_cons (pv 13) (pa_cons (C8.pe_c C__law_draw hr (by omega) rfl (pa_cons (pv 0) (pa_cons pe_int pa_nil))) pa_nil)))))))))))))) pss_nil)))
      (pss_cons (ps_for PassesOwn.never rfl (pi_range1 rfl B.range (pa_cons (pe_callB (klen (K := K) rfl) (by rfl) B.len bt_len (pa_cons (kfld (K := K) rfl (pv 10)) pa_nil)) pa_nil)) (pg_name (i := 15) sc__law_issuer.nd rfl (.inl rfl))
      (pss_one (ps_if (pt_cmpR op_eq (C8.pe_c C__law_draw hr (by omega) rfl (pa_cons (pv 0) (pa_cons pe_int pa_nil))) pe_int (nomark _)) (pss_one (ps_expr (C8.pe_mt M_revoke hr (by omega) (pv 10) (pa_cons (pv 15) (pa_cons (C8.pe_c C__law_draw hr (by omega) rfl (pa_cons (pv 0) (pa_cons pe_int pa_nil))) pa_nil))))) pss_nil)))
      (pss_one (ps_ret (pe_tupF (pa_cons (pv 10) (pa_cons (pe_cmpR (keqd (K := K) rfl hr.units) (pv 4) (pv 1) (nomark _)) (pa_cons (pv 5) pa_nil))))))))))))))),
    fn_run1 h (fun po => (z_seq (z_set fun _ => (b_up fun _ => a_var))
      (z_seq (z_setO fun _ => (b_upF fun _ => (a_b1F u_listOf (a_pk a_var))))
      (z_seq (z_set fun _ => (b_up fun _ => (a_call (a_cons a_var (a_cons a_int a_nil)))))
      (z_cut (z_if (fun _ => (b_upT fun _ => (a_test (a_op pst_rv rok_eq a_var a_int)))) (z_set fun _ => (b_up fun _ => (a_tup (a_cons (a_op pst_pk rok_ix (a_pk a_var) a_int) (a_cons (a_op pst_pk rok_ix (a_pk a_var) a_int) (a_cons (a_fz (a_revL (a_pk (a_op pst_pk rok_ix (a_pk a_var) a_int)))) a_nil)))))) z_next)
      (z_cut (z_if (fun _ => (b_upT fun _ => (a_test (a_op pst_rv rok_eq a_var a_int)))) (z_seq (z_set fun _ => (b_up fun _ => (a_call (a_cons a_var (a_cons (a_b1 u_len a_peek) a_nil)))))
      (z_seq (z_set fun _ => (b_up fun _ => (a_op pst_pk rok_ix (a_pk (a_op pst_pk rok_ix a_peek a_var)) a_int)))
      (z_seq (z_set fun _ => (b_up fun _ => (a_fz (a_lst (a_cons (a_slT (a_op pst_rv rok_catT a_var (a_tup (a_cons (a_tup (a_cons a_str (a_cons a_int a_nil))) a_nil))) (ao_some (a_neg a_int)) ao_none) (a_cons (a_op pst_rv rok_catT (a_slT a_var ao_none (ao_some (a_neg a_int))) (a_tup (a_cons (a_tup (a_cons a_str (a_cons a_int a_nil))) a_nil))) (a_cons (a_op pst_rv rok_catT (a_slT a_var ao_none (ao_some (a_neg a_int))) (a_b1 u_tupOf (a_pk (a_fz (a_lc (vs := [3, 17]) (i_tup (a_slT a_var (ao_some (a_neg a_int)) ao_none)) (g_tup (g_cons (g_name (vs := [3, 17]) (i := 3) (by decide)) (g_cons (g_name (vs := [3, 17]) (i := 17) (by decide)) g_nil tot_name) tot_name)) a_yes (a_tup (a_cons a_var (a_cons (a_op pst_rv rok_I0 a_int (a_op pst_rv rok_I a_var a_int)) a_nil)))))))) (a_cons (a_slT a_var ao_none (ao_some (a_neg a_int))) a_nil))))))))
      (z_putO (s := 5) (fun _ => (b_up fun _ => (a_tup (a_cons (a_op pst_pk rok_ix (a_pk (a_op pst_pk rok_ix a_peek a_var)) a_int) (a_cons (a_op pst_pk rok_ix (a_pk a_var) (a_call (a_cons a_var (a_cons a_int a_nil)))) a_nil))))) (fun _ => (b_up fun _ => a_var)))))) z_next)
      (z_cut (z_if (fun _ => (b_upT fun _ => (a_test (a_op pst_rv rok_eq a_var a_int)))) (z_setO fun _ => (b_upF fun _ => (a_slL a_peek (ao_some a_int) ao_none))) z_next)
      (z_fz (i := 5) (z_seq (z_set fun _ => (b_make3 (b_upA fun _ => (a_cons a_var (a_cons (a_make (a_cons (a_op pst_pk rok_ix (a_pk a_var) a_int) (a_cons (a_op pst_pk rok_ix (a_pk a_var) a_int) (a_cons (a_op pst_pk rok_ix (a_pk a_var) a_int) a_nil)))) (a_cons (a_fz (a_lc (vs := [12, 8]) (i_list a_var) (g_tup (g_cons (g_name (vs := [12, 8]) (i := 12) (by decide)) (g_cons (g_name (vs := [12, 8]) (i := 8) (by decide)) g_nil tot_name) tot_name)) a_yes (a_make (a_cons a_var (a_cons a_var a_nil))))) a_nil))))))
      (z_seq (z_for (vs := [11]) (fun _ => (b_upI fun _ => (i_ran1 (a_cons (a_call (a_cons a_var (a_cons a_int a_nil))) a_nil)))) (fun _ => (g_name (vs := [11]) (i := 11) (by decide)))
      (z_if (fun _ => (b_upT fun _ => (a_and (a_test (a_op pst_rv rok_B0 (a_b1 u_len (a_pk a_var)) a_int)) (a_test (a_op pst_rv rok_B0 a_int a_var))))) (z_seq (z_asg (vs := [12, 8]) (fun _ => (b_up fun _ => (a_op pst_pk rok_ix (a_pk a_var) (a_call (a_cons a_var (a_cons (a_b1 u_len (a_pk a_var)) a_nil)))))) (fun _ => (g_tup (g_cons (g_name (vs := [12, 8]) (i := 12) (by decide)) (g_cons (g_name (vs := [12, 8]) (i := 8) (by decide)) g_nil tot_name) tot_name))))
      (z_seq (z_set fun _ => (b_up fun _ => (a_fz (a_lc (vs := [16, 17]) (i_tup a_var) (g_tup (g_cons (g_name (vs := [16, 17]) (i := 16) (by decide)) (g_cons (g_name (vs := [16, 17]) (i := 17) (by decide)) g_nil tot_name) tot_name)) a_yes (a_call (a_cons a_var (a_cons a_var a_nil)))))))
      (z_seq (z_set fun _ => (b_up fun _ => (a_call (a_cons a_var (a_cons a_var (a_cons a_int a_nil))))))
      (z_drop fun _ => (b_call2 (b_cons (b_up fun _ => a_var) (b_cons (b_up fun _ => a_var) (b_cons (b_up fun _ => a_var) (b_cons (b_up fun _ => a_var) (b_cons (b_up fun _ => (a_op pst_pk rok_ix (a_pk a_var) a_int)) (b_cons (b_up fun _ => (a_op pst_pk rok_ix (a_pk a_var) a_int)) (b_cons (b_up fun _ => a_var) (b_cons (b_up fun _ => (a_call (a_cons a_var (a_cons a_int a_nil)))) b_nil))))))))))))) z_next))
      (z_seq (z_for (vs := [15]) (fun _ => (b_ran (b_cons (b_upV 3 fun _ => (a_b1 u_len (a_pk (a_fld T5.cl T5.n_book (c := 5) (i := 3) rfl a_var)))) b_nil))) (fun _ => (g_name (vs := [15]) (i := 15) (by decide)))
      (z_if (fun _ => (b_upT fun _ => (a_test (a_op pst_rv rok_eq (a_call (a_cons a_var (a_cons a_int a_nil))) a_int)))) (z_drop fun _ => (b_meth2 (c := 5) (by decide) (b_up fun _ => a_var) (b_upA fun _ => (a_cons a_var (a_cons (a_call (a_cons a_var (a_cons a_int a_nil))) a_nil))))) z_next))
      (z_stl (z_ret fun _ => (b_up fun _ => (a_tup (a_cons a_var (a_cons (a_op pst_pk rok_eqD (a_pk a_var) (a_pk a_var)) (a_cons a_var a_nil)))))))))))))))))) (fun ds P a => by obtain ⟨_, _, _, _, _, rfl, _⟩ := a; exact Nat.le_of_ble_eq_true rfl) ?_⟩)
  rintro ds P ⟨p, q, bs, ks, n, rfl, gk, l6, qm, kok, hp⟩
  have p1 := gk.p0
  have pm := gk.pm
  have lm := gk.lm
  have qp : 2 ≤ q := gk.qp.1
  have kl : ks.length = 1 ∨ ks.length = 2 := by
    rcases ks_shape kok with ⟨_, e⟩ | ⟨_, _, e⟩ <;> rw [e]
    · exact .inl rfl
    · exact .inr rfl
  refine zseqG fun N hN => ?_
  walk_at "wq"
  subst hN
  refine zseqG fun N hN => ?_
  walk_at "wq"
  subst hN
  refine zseqG fun N hN => ?_
  walk_at "wq"
  refine draw (by omega) (by omega) fun way w0 w1 => ?_
  subst hN
  have hSt : ∃ W : Nat → List Sl → Sto → Prop, ∀ m env M, W m env M ↔ ∃ (own : List Int) (rs : List Kd) (t7 t8 t9 : Sl), env = [Sl.d .pool, Sl.d (lgD p q bs), Sl.d (.lst (ks.map kdT)), Sl.d (.str n), Sl.d (lgD p q own), Sl.o (rs.map kdT), Sl.d (.int way), t7, t8, t9, Sl.u, Sl.u, Sl.u, Sl.u, Sl.u, Sl.u, Sl.u, Sl.u] ∧ M = (fun _ => none) ∧ GOk p q own ∧ own.length = bs.length ∧ rs.length ≤ ks.length ∧ (∀ k ∈ rs, FsOk m k.1 k.2) ∧ (3 < way → own = bs ∧ rs = ks) ∧ (way = 1 → rs.length = ks.length) := ⟨_, fun _ _ _ => Iff.rfl⟩
  obtain ⟨W, hW⟩ := hSt
  have sW : W 4 [Sl.d .pool, Sl.d (lgD p q bs), Sl.d (.lst (ks.map kdT)), Sl.d (.str n), Sl.d (lgD p q bs), Sl.o (ks.map kdT), Sl.d (.int way), Sl.u, Sl.u, Sl.u, Sl.u, Sl.u, Sl.u, Sl.u, Sl.u, Sl.u, Sl.u, Sl.u] (fun _ => none) := (hW _ _ _).mpr ⟨bs, ks, _, _, _, rfl, rfl, gk, rfl, Nat.le_refl _, fun k hk => fs_ok kok hk, fun _ => ⟨rfl, rfl⟩, fun _ => rfl⟩
  refine ⟨W 4, ?_, ?_⟩
  · unfold lgD
    walk_at "wq"
    refine twoD (fun e => ?_) (fun _ => sW)
    rw [← List.map_reverse]
    exact (hW _ _ _).mpr ⟨bs.reverse, ks, _, _, _, rfl, rfl, gk.rev, List.length_reverse, Nat.le_refl _, fun k hk => fs_ok kok hk, fun z => by omega, fun _ => rfl⟩
  clear sW
  intro env M w
  refine ⟨W 5, ?_, ?_⟩
  · obtain ⟨own, rs, t7, t8, t9, rfl, rfl, go, lo, lr, fo, h3, h1⟩ := (hW _ _ _).mp w
    unfold lgD
    walk_at "wq"
    refine twoD (fun e => ?_) (fun _ => (hW _ _ _).mpr ⟨own, rs, _, _, _, rfl, rfl, go, lo, lr, fun k hk => (fo k hk).mono (by omega), h3, h1⟩)
    clear w
    have lk := h1 e
    refine zseqG fun N2 hN2 => ?_
    walk_at "wq"
    rw [List.length_map]
    refine draw (by omega) (by omega) fun v v0 v1 => ?_
    obtain ⟨i, rfl⟩ : ∃ i : Nat, v = i := ⟨v.toNat, by omega⟩
    have hi : rs[i]? = some rs[i] := List.getElem?_eq_getElem (by omega)
    have li : i < rs.length := by omega
    generalize rs[i] = kd at hi
    obtain ⟨kn, fs⟩ := kd
    have fk := fo _ (List.mem_of_getElem? hi)
    have f4 : fs.length ≤ 4 := fk.ln
    subst hN2
    refine zseqG fun N2 hN2 => ?_
    walk_at "wq"
    refine oa_at rfl hi ?_
    unfold kdT
    walk_at "wq"
    subst hN2
    refine zseqG fun N2 hN2 => ?_
    walk_at "wq"
    obtain ⟨g1, e1, l1, m1⟩ := cutF (fs := fs ++ [(("zz" : Str), (2 : Int))]) (some (-4)) none
    obtain ⟨g2, e2, l2, m2⟩ := cutF (fs := fs) none (some (-1))
    obtain ⟨g3, e3, l3, m3⟩ := cutF (fs := fs) (some (-1)) none
    rw [List.map_append] at e1
    rw [e2, e3]
    refine ⟨by rw [List.length_map]; omega, by rw [List.length_map]; omega, by rw [List.length_map]; omega, ?_⟩
    refine lcA_mapL (g := fun f : Fld => fmD (f.1, 1 + f.2 % 16)) (fun f hf Q hQ => ?_) ?_
    · unfold fmD at hQ ⊢
      walk_at "dw"
      exact ⟨by omega, hQ⟩
    refine ⟨by rw [List.length_map, List.length_map]; omega, ?_⟩
    have e4 : cutD (fs.map fmD ++ [.tup [.str "zz", .int 2]]) (some (-4)) none = g1.map fmD := e1
    rw [e4]
    obtain ⟨G, hG⟩ : ∃ G : List (List Fld), G = [g1, g2 ++ [(("zz" : Str), (1 : Int))], g2 ++ g3.map (fun f => (f.1, 1 + f.2 % 16)), g2] := ⟨_, rfl⟩
    have eG : [Dat.tup (g1.map fmD), .tup (g2.map fmD ++ [.tup [.str "zz", .int 1]]), .tup (g2.map fmD ++ g3.map (fun f => fmD (f.1, 1 + f.2 % 16))), .tup (g2.map fmD)] = G.map fun g => .tup (g.map fmD) := by
      rw [hG]
      simp only [List.map_cons, List.map_nil, List.map_append, List.map_map]
      rfl
    have zz : PyData.strOk ("zz" : Str) = true := by decide +kernel
    have s2 : ∀ f ∈ g2, PyData.strOk f.1 = true := fun f hf => fk.sf f (m2 f hf)
    have oG : ∀ g ∈ G, FsOk 5 kn g := fun g hg => by
      rw [hG] at hg
      simp only [List.mem_cons, List.mem_nil_iff, or_false] at hg
      rcases hg with rfl | rfl | rfl | rfl
      · refine ⟨fk.sn, by rw [List.length_append, List.length_singleton] at l1; omega, fun f hf => ?_⟩
        rcases List.mem_append.mp (m1 f hf) with h | h
        · exact fk.sf f h
        · obtain rfl := List.mem_singleton.mp h
          exact zz
      · refine ⟨fk.sn, by rw [List.length_append, List.length_singleton]; omega, fun f hf => ?_⟩
        rcases List.mem_append.mp hf with h | h
        · exact s2 f h
        · obtain rfl := List.mem_singleton.mp h
          exact zz
      · refine ⟨fk.sn, ?_, fun f hf => ?_⟩
        · rw [List.length_append, List.length_map]
          have := congrArg List.length e2
          rw [cutLast, List.length_dropLast, List.length_map, List.length_map] at this
          have e5 := congrArg List.length e3
          rw [List.length_map] at e5
          have := cut1_len (xs := fs.map fmD)
          omega
        · rcases List.mem_append.mp hf with h | h
          · exact s2 f h
          · obtain ⟨f', hf', rfl⟩ := List.mem_map.mp h
            exact fk.sf f' (m3 f' hf')
      · exact ⟨fk.sn, by omega, s2⟩
    rw [eG]
    have lG : G.length = 4 := by rw [hG]; rfl
    clear hG eG e4 e3 e2 e1 m1 m2 m3 l1 l2 l3 s2
    subst hN2
    walk_at "wq"
    refine oa_at (xs := rs) rfl hi ?_
    walk_at "wq"
    refine draw (by omega) (by omega) fun j j0 j1 => ?_
    refine oa_any j0 (by omega) fun g hg => ?_
    refine ⟨i, by rw [List.length_map]; exact ixN_nat (by omega) (by omega), ?_⟩
    refine (hW _ _ _).mpr ⟨own, rs.set i (kn, g), _, _, _, by rw [List.map_set]; rfl, rfl, go, lo, by rw [List.length_set]; exact lr, fun k hk => ?_, fun z => by omega, fun _ => by rw [List.length_set]; exact lk⟩
    rcases List.mem_or_eq_of_mem_set hk with hk | rfl
    · exact (fo k hk).mono (by omega)
    · exact oG g hg
  clear w M env
  intro env M w
  refine ⟨W 5, ?_, ?_⟩
  · obtain ⟨own, rs, t7, t8, t9, rfl, rfl, go, lo, lr, fo, h3, h1⟩ := (hW _ _ _).mp w
    walk_at "wq"
    refine twoD (fun e => ?_) (fun _ => w)
    rw [show cutD (rs.map kdT) (some 1) none = (rs.drop 1).map kdT from (cut_from (a := 1)).trans (List.map_drop).symm]
    exact (hW _ _ _).mpr ⟨own, rs.drop 1, _, _, _, rfl, rfl, go, lo, by rw [List.length_drop]; omega, fun k hk => fo k (List.mem_of_mem_drop hk), fun z => by omega, fun z => by omega⟩
  clear w M env
  intro env M w
  obtain ⟨own, rs, t7, t8, t9, rfl, rfl, go, lo, lr, fo, h3, _⟩ := (hW _ _ _).mp w
  clear w hW W
  walk_at "wq"
  refine zseqG fun N hN => ?_
  unfold lgD
  walk_at "wq"
  refine ⟨p, q, own, rfl, go, ?_⟩
  refine ⟨by rw [List.length_map]; omega, ?_⟩
  refine lcA_mapL (g := kdP) (fun k hk Q hQ => ?_) ?_
  · have := (fo k hk).ln
    unfold kdT
    walk_at "dw"
    exact ⟨true, k.1, k.2, rfl, by omega, hQ⟩
  intro x hx
  refine ⟨x, .str n, _, rs.map kdP, rfl, Sto.put_s, by rw [List.length_map]; omega, fun bk rq hb hr nbr => ⟨rfl, ?_⟩⟩
  rw [Sto.pp]
  have nbx : bk ≠ x := fun z => by
    rw [z, Sto.put_s] at hb
    cases hb
  have nrx : rq ≠ x := fun z => by
    rw [z, Sto.put_s] at hr
    cases hr
  have is0 : IsN n ((((Sto.put (fun _ => none) x (some (.obj 5 [.str n, .obj 0 [.int p, .int q, .tup (own.map .int)], .tup (rs.map kdP), .cell bk, .cell rq]))).put bk (some (.lst []))).put rq (some (.lst [])))) x bk rq [] [] [] p q own rs :=
    ⟨by rw [Sto.put_n (Ne.symm nrx), Sto.put_n (Ne.symm nbx), Sto.put_s]; rfl, by rw [Sto.put_n nbr, Sto.put_s]; rfl, by rw [Sto.put_s]; rfl, rfl, fun i a l h => by cases h⟩
  generalize ((((Sto.put (fun _ => none) x (some (.obj 5 [.str n, .obj 0 [.int p, .int q, .tup (own.map .int)], .tup (rs.map kdP), .cell bk, .cell rq]))).put bk (some (.lst []))).put rq (some (.lst [])))) = M at is0 ⊢
  clear hb hr hx
  subst hN
  refine zseqG fun N hN => ?_
  walk_at "wq"
  refine draw (by omega) (by omega) fun tn tn0 tn1 => ?_
  obtain ⟨tn, rfl⟩ : ∃ m : Nat, tn = m := ⟨tn.toNat, by omega⟩
  walk_at "wq"
  refine ⟨by omega, by omega, ?_⟩
  rw [Int.toNat_natCast]
  have hSt : ∃ W : Nat → List Sl → Sto → Prop, ∀ i env M, W i env M ↔ ∃ (ra : List Addr) (ls : List LR) (rows : List BRow) (t8 t11 t12 t13 t14 : Sl), env = [Sl.d .pool, Sl.d (.tup [.int p, .int q, .lst (bs.map .int)]), Sl.d (.lst (ks.map kdT)), Sl.d (.str n), Sl.d (.tup [.int p, .int q, .lst (own.map .int)]), Sl.d (.lst (rs.map kdT)), Sl.d (.int way), t7, t8, t9, Sl.d (.cell x), t11, t12, t13, t14, Sl.u, Sl.u, Sl.u] ∧ IsN n M x bk rq ra ls rows p q own rs ∧ ra.Nodup ∧ ra.length ≤ i ∧ rows.length ≤ i ∧ ∀ r ∈ rows, PyData.strOk r.kn = true ∧ r.rev = none := ⟨_, fun _ _ _ => Iff.rfl⟩
  obtain ⟨W, hW⟩ := hSt
  refine forB_ran W ((hW _ _ _).mpr ⟨[], [], [], _, _, _, _, _, rfl, is0, List.nodup_nil, Nat.le_refl _, Nat.le_refl _, fun _ h => nomatch h⟩) ?_ ?_
  · intro i env M' hi w N2 hN2
    obtain ⟨ra, ls, rows, t8, t11, t12, t13, t14, rfl, is, nd, l1, l2, so⟩ := (hW _ _ _).mp w
    walk_at "wq"
    have stay : ∀ z11 z8 z12 z13 z14 : Sl, W (i + 1) [Sl.d .pool, Sl.d (.tup [.int p, .int q, .lst (bs.map .int)]), Sl.d (.lst (ks.map kdT)), Sl.d (.str n), Sl.d (.tup [.int p, .int q, .lst (own.map .int)]), Sl.d (.lst (rs.map kdT)), Sl.d (.int way), t7, z8, t9, Sl.d (.cell x), z11, z12, z13, z14, Sl.u, Sl.u, Sl.u] M' := fun _ _ _ _ _ => (hW _ _ _).mpr ⟨ra, ls, rows, _, _, _, _, _, rfl, is, nd, by omega, by omega, so⟩
    refine twoD (fun _ => ?_) (fun _ => hN2 _ _ (stay _ _ _ _ _))
    refine twoD (fun e3 => ?_) (fun _ => hN2 _ _ (stay _ _ _ _ _))
    obtain ⟨rfl, rfl⟩ := h3 e3
    have b6 : 6 ≤ own.length := l6
    obtain ⟨b0, b1, bt, eb⟩ : ∃ b0 b1 bt, own = b0 :: b1 :: bt := by
      match own, b6 with
      | b0 :: b1 :: bt, _ => exact ⟨b0, b1, bt, rfl⟩
    have bd : Bn p q own b0 b1 bt rs := ⟨gk, eb, l6, kok, qm⟩
    refine zseqG fun N3 hN3 => ?_
    walk_at "wq"
    rw [List.length_map]
    refine draw (by omega) (by omega) fun v v0 v1 => ?_
    refine oa_any v0 v1 fun k hk => ?_
    obtain ⟨kn, kf⟩ := k
    unfold kdT
    walk_at "wq"
    subst hN3
    refine zseqG fun N3 hN3 => ?_
    walk_at "wq"
    have hkf := kok.fs _ hk
    have k4 : kf.length ≤ 4 := hkf.1
    refine ⟨by rw [List.length_map]; omega, lcA_relL (fun (f : Fld) y => ∃ n, y = Dat.int n ∧ 0 ≤ n ∧ n < f.2) (fun f hf Q hQ => ?_) fun ys pr => ?_⟩
    · unfold fmD
      walk_at "wq"
      have := hkf.2 f hf
      refine draw (by omega) (by omega) fun v v0 v1 => hQ _ ⟨v, rfl, v0, v1⟩
    obtain ⟨vs, rfl, _, pr⟩ := paired_ints pr
    obtain ⟨mh, lv⟩ := may_of pr
    subst hN3
    refine zseqG fun N3 hN3 => ?_
    walk_at "wq"
    refine ⟨p, q, 2, own, rfl, by omega, by omega, by decide, by decide, fun ns ln hn => ?_⟩
    obtain ⟨s0, s1, rfl⟩ : ∃ t0 t1, ns = [t0, t1] := by
      match ns, ln with
      | [t0, t1], _ => exact ⟨t0, t1, rfl⟩
      | [], h => cases h
      | [_], h => cases h
      | _ :: _ :: _ :: _, h => exact absurd h (by simp only [List.length_cons]; omega)
    have hs0 := hn s0 List.mem_cons_self
    have hs1 := hn s1 (List.mem_cons_of_mem _ List.mem_cons_self)
    subst hN3
    walk_at "wq"
    refine draw (by omega) (by omega) fun day _ _ => ?_
    refine ⟨x, bk, rq, n, ra, ls, rows, p, q, b0, b1, s0, s1, day, own, bt, vs, rs, kn, kf, rfl, is, bd, ⟨nd, nbr, by omega, by omega⟩, ⟨hk, mh, hs0, hs1⟩, fun ra' ls' el M2 is2 nd2 lr2 => ?_⟩
    refine hN2 _ _ ((hW _ _ _).mpr ⟨ra', ls', rows ++ [⟨kn, el, day, none⟩], _, _, _, _, _, rfl, is2, nd2, by omega, by rw [List.length_append, List.length_singleton]; omega, fun r hr => ?_⟩)
    rcases List.mem_append.mp hr with hr | hr
    · exact so r hr
    · obtain rfl := List.mem_singleton.mp hr
      exact ⟨(ks_name kok hk).2.1, rfl⟩
  intro env M' w
  obtain ⟨ra, ls, rows, t8, t11, t12, t13, t14, rfl, is, nd, l1, l2, so⟩ := (hW _ _ _).mp w
  clear w hW W is0 M
  show N _ _
  subst hN
  refine zseqG fun N hN => ?_
  walk_at "wq"
  rw [is.vw]
  unfold issD
  walk_at "wq"
  rw [List.length_map]
  refine ⟨by omega, by omega, ?_⟩
  rw [Int.toNat_natCast]
  have hSt : ∃ W : Nat → List Sl → Sto → Prop, ∀ i env M, W i env M ↔ ∃ (rows' : List BRow) (t15 : Sl), env = [Sl.d .pool, Sl.d (.tup [.int p, .int q, .lst (bs.map .int)]), Sl.d (.lst (ks.map kdT)), Sl.d (.str n), Sl.d (.tup [.int p, .int q, .lst (own.map .int)]), Sl.d (.lst (rs.map kdT)), Sl.d (.int way), t7, t8, t9, Sl.d (.cell x), t11, t12, t13, t14, t15, Sl.u, Sl.u] ∧ IsN n M x bk rq ra ls rows' p q own rs ∧ rows'.length = rows.length ∧ (∀ r ∈ rows', PyData.strOk r.kn = true) ∧ ∀ j r, i ≤ j → rows'[j]? = some r → r.rev = none := ⟨_, fun _ _ _ => Iff.rfl⟩
  obtain ⟨W, hW⟩ := hSt
  refine forB_ran W ((hW _ _ _).mpr ⟨rows, _, rfl, is, rfl, fun r hr => (so r hr).1, fun j r _ hj => (so r (List.mem_of_getElem? hj)).2⟩) ?_ ?_
  · intro i env M2 hi w N2 hN2
    obtain ⟨rows', t15, rfl, is2, lr2, so2, rv⟩ := (hW _ _ _).mp w
    walk_at "wq"
    refine draw (by omega) (by omega) fun v v0 v1 => ?_
    walk_at "wq"
    refine twoD (fun _ => ?_) (fun _ => hN2 _ _ ((hW _ _ _).mpr ⟨rows', _, rfl, is2, lr2, so2, fun j r hj => rv j r (by omega)⟩))
    rw [is2.hx]
    unfold isL
    walk_at "wq"
    refine draw (by omega) (by omega) fun day _ _ => ?_
    refine ⟨x, bk, rq, n, 0 + (i : Int), day, p, q, own, rs, rows', rfl, is2.hx, is2.hb, by omega, fun z => absurd ⟨by omega, by omega⟩ z, fun i' r hi' hr' => ?_⟩
    obtain rfl : i = i' := by omega
    refine ⟨fun z => absurd (rv i r (Nat.le_refl _) hr') z, fun _ => ?_⟩
    refine hN2 _ _ ((hW _ _ _).mpr ⟨_, _, rfl, is2.book (rows' := rows'.set i { r with rev := some day }) (Ne.symm nbr), by rw [List.length_set]; exact lr2, fun r' hr2 => ?_, fun j r' hj hr2 => ?_⟩)
    · rcases List.mem_or_eq_of_mem_set hr2 with h | rfl
      · exact so2 r' h
      · exact so2 r (List.mem_of_getElem? hr')
    · rw [List.getElem?_set_ne (by omega)] at hr2
      exact rv j r' (by omega) hr2
  intro env M2 w
  obtain ⟨rows', t15, rfl, is2, lr2, so2, rv⟩ := (hW _ _ _).mp w
  clear w hW W is
  show N _ _
  subst hN
  have sx := SlsX.at_ (M := M2) (n := 3) (i := 10) (d := .cell x) (ss := [Sl.d .pool, Sl.d (.tup [.int p, .int q, .lst (bs.map .int)]), Sl.d (.lst (ks.map kdT)), Sl.d (.str n), Sl.d (.tup [.int p, .int q, .lst (own.map .int)]), Sl.d (.lst (rs.map kdT)), Sl.d (.int way), t7, t8, t9, Sl.d (.cell x), t11, t12, t13, t14, t15, Sl.u, Sl.u]) rfl
  rw [is2.vx] at sx
  refine ⟨_, sx, ?_⟩
  clear sx
  obtain ⟨I, hI⟩ : ∃ I : Iq, I = ⟨n, p, q, own, rs, rows', .lst (ls.map fun l => .obj 4 (rqL l.r))⟩ := ⟨_, rfl⟩
  have eI : issD n p q own rs rows' ls = iqD I := by rw [hI]; rfl
  rw [eI]
  unfold iqD
  walk_at "wq"
  have oe : ∀ xs : List Int, okE 64 (.tup [.int p, .int q, .lst (xs.map .int)]) := fun xs => by
    refine (okE_tup (n := 5) fun d hd => ?_).up (Nat.le_of_ble_eq_true rfl)
    simp only [List.mem_cons, List.mem_nil_iff, or_false] at hd
    rcases hd with rfl | rfl | rfl
    · exact okE_int _ _
    · exact okE_int _ _
    · exact okE_lst (n := 4) (okE_maps fun _ _ => okE_int _ _)
  refine ⟨oe own, oe bs, fun b hb => ?_⟩
  have io : IqOk n p q I := by
    rw [hI]
    exact ⟨rfl, rfl, rfl, by show rows'.length ≤ 5; omega, fun k hk => by have := fo k hk; exact ⟨this.sn, by have := this.ln; omega, this.sf⟩, so2⟩
  have h := hp I io
  have eb : decide (I.bs = bs) = b := by
    rw [hI]
    show decide (own = bs) = b
    cases b with
    | true =>
      have z := hb.mp rfl
      rw [Dat.tup.injEq, List.cons.injEq, List.cons.injEq, List.cons.injEq, Dat.lst.injEq] at z
      exact decide_eq_true (map_inj (fun _ _ z => by injection z) z.2.2.1)
    | false => exact decide_eq_false fun z => absurd (hb.mpr (by rw [z])) (by decide)
  unfold liD iqD at h
  rw [eb, show I.ks = rs by rw [hI]] at h
  rw [show I.ks = rs by rw [hI]]
  exact h
end
abbrev s__law_found : Stmt := top 68
theorem sc__law_found : FnScope ["group", "kinds", "card", "issuers", "day", "fields", "rows", "name", "known", "book", "index", "row", "kind", "field", "size"] ["group", "kinds", "card", "issuers", "day"] (defScope s__law_found) := ⟨rfl, rfl, rfl, by decide +kernel, rfl, by decide +kernel, by decide +kernel⟩
/-- a card's row -/
def sumD : Str ⊕ List Rw → Dat
  | .inl e => .str e
  | .inr r => .tup (r.map rwD)
theorem okE_kdT {k : Kd} (h : KdOk k.1 k.2) : okE 64 (kdT k) := by
  refine (okE_tup (n := 5) fun d hd => ?_).up (Nat.le_of_ble_eq_true rfl)
  simp only [List.mem_cons, List.mem_nil_iff, or_false] at hd
  rcases hd with rfl | rfl
  · exact okE_str h.sn _
  · exact okE_tup (n := 4) (okE_maps fun f hf => okE_tup (n := 3) (okE_two (okE_str (h.sf f hf) _) (okE_int _ _)))
theorem kdT_inj {k k' : Kd} (h : kdT k = kdT k') : k = k' := by
  unfold kdT at h
  rw [Dat.tup.injEq, List.cons.injEq, List.cons.injEq, Dat.str.injEq, Dat.tup.injEq] at h
  exact Prod.ext h.1 (map_inj (fun _ _ => fmD_inj) h.2.1)
theorem fI_or (nm : Str) : ∀ (is : List Iq) (a : Option Iq), is.foldl (fun a i => if i.n = nm then some i else a) a = (fI is nm).or a
  | [], _ => rfl
  | i :: is, a => by
    unfold fI
    rw [List.foldl_cons, List.foldl_cons, fI_or nm is, fI_or nm is]
    by_cases e : i.n = nm
    · rw [if_pos e, if_pos e]
      cases fI is nm <;> rfl
    · rw [if_neg e, if_neg e]
      cases fI is nm <;> rfl
theorem fI_none {is : List Iq} {nm : Str} (h : ∀ i ∈ is, i.n ≠ nm) : fI is nm = none := by
  cases e : fI is nm with
  | none => rfl
  | some i => exact absurd (fI_mem e).2 (h i (fI_mem e).1)
theorem fI_filt {nm : Str} : ∀ {is : List Iq}, (is.map (·.n)).Nodup → is.filter (fun i => decide (i.n = nm)) = (fI is nm).toList
  | [], _ => rfl
  | i :: is, nd => by
    rw [List.map_cons, List.nodup_cons] at nd
    have ih := fI_filt (nm := nm) nd.2
    have e0 : fI (i :: is) nm = (fI is nm).or (if i.n = nm then some i else none) := fI_or nm is _
    rw [e0, List.filter_cons]
    by_cases e : i.n = nm
    · have z : fI is nm = none := fI_none fun j hj hn => nd.1 (List.mem_map.mpr ⟨j, hj, hn.trans e.symm⟩)
      rw [if_pos (decide_eq_true e), ih, z, if_pos e]
      rfl
    · rw [if_neg (by rw [decide_eq_false e]; decide), ih, if_neg e]
      cases fI is nm <;> rfl
section
variable {P : Program} {w : World} {K : PySem.W.Frag} {mg : Str → Option Value} {base : Heap} {ca : Nat → Addr}
def aspLFound : ASp := fun ds P => ∃ (p q day : Int) (bs bs0 : List Int) (ks : List Kd) (c : Cd) (is : List Iq), ds = [lgD p q bs, .lst (ks.map kdT), cdD c, .lst (is.map (liD bs)), .int day] ∧
  (KsOk ks ∧ (is.map (·.n)).Nodup ∧ is.length ≤ 100 ∧ c.is.length ≤ 100 ∧ (∃ kf, (c.kn, kf) ∈ ks) ∧ ∀ i ∈ is, IqOk i.n p q i) ∧ P (sumD (cardR q p bs is day (kfO ks c) c))
theorem ok_law_found {f : Addr} {fd : FuncData} (F : Fun K "_law_found" "_law_found" s__law_found f fd) (T5 : IsT K (ca 5)) (B : Blt mg) : FnOk P w K mg base CX0 4 f fd ["group", "kinds", "card", "issuers", "day"] (toSp K ca aspLFound) := by
  refine F.ok sc__law_found (fun vs H Q E h => sp_len (n := 5) (fun ds P a => by obtain ⟨_, _, _, _, _, _, _, _, rfl, _⟩ := a; rfl) h) (fun cdv A outer s H vs Q E hr h => ⟨_, (pss_cons (ps_set (i := 5) sc__law_found.nd rfl (.inl rfl) (pe_ix (kixs (K := K) rfl) (pe_lc (own := [("kind", 12), ("fields", 5)]) rfl sc__law_found.nd (kpil (K := K) rfl (pv 1)) (blkOk_by (N := ["group", "kinds", "card", "issuers", "day", "fields", "rows", "name", "known", "book", "index", "row", "kind", "field", "size"]) (sc := defScope s__law_found) (by decide +kernel))
        (fun _ _ _ _ _ => (kgtup (K := K) (n := 2) rfl rfl (pgs_cons (pg_name (i := 12) sc__law_found.nd rfl (.inl rfl)) (pgs_cons (pg_name (i := 5) sc__law_found.nd rfl (.inl rfl)) pgs_nil)))) (fun _ _ _ _ _ => pts_one (pt_cmpR op_eq (pv 12) (pe_ix (kixs (K := K) rfl) (pv 2) pe_int (fun _ _ => rfl)) (nomark _)))
        (fun _ _ _ _ _ => (pv 5))) pe_int (fun _ _ => rfl)))
      (pss_cons (ps_if (pt_cmpR op_gt (pe_op op_add (pe_callB (klen (K := K) rfl) (by rfl) B.len bt_len (pa_cons (pv 5) pa_nil)) pe_int) (pe_callB (klen (K := K) rfl) (by rfl) B.len bt_len (pa_cons (pe_ix (kixs (K := K) rfl) (pv 0) pe_int (fun _ _ => rfl)) pa_nil)) (nomark _)) (pss_one (ps_ret pe_str)) pss_nil)
      (pss_cons (ps_if (pt_cmpR op_gt (pe_callB (klen (K := K) rfl) (by rfl) B.len bt_len (pa_cons (pe_lc (own := [("field", 13), ("size", 14)]) rfl sc__law_found.nd (kpit (K := K) rfl (pv 5)) (blkOk_by (N := ["group", "kinds", "card", "issuers", "day", "fields", "rows", "name", "known", "book", "index", "row", "kind", "field", "size"]) (sc := defScope s__law_found) (by decide +kernel))
        (fun _ _ _ _ _ => (kgtup (K := K) (n := 2) rfl rfl (pgs_cons (pg_name (i := 13) sc__law_found.nd rfl (.inl rfl)) (pgs_cons (pg_name (i := 14) sc__law_found.nd rfl (.inl rfl)) pgs_nil)))) (fun _ _ _ _ _ => pts_one (pt_cmpR op_gt (pv 14) (pe_ix (kixs (K := K) rfl) (pv 0) pe_int (fun _ _ => rfl)) (nomark _)))
        (fun _ _ _ _ _ => (pv 14))) pa_nil)) pe_int (nomark _)) (pss_one (ps_ret pe_str)) pss_nil)
      (pss_cons (ps_set (i := 6) sc__law_found.nd rfl (.inl rfl) (pe_lst pa_nil))
      (pss_cons (ps_for PassesOwn.never rfl (kpit (K := K) rfl (pe_ix (kixs (K := K) rfl) (pv 2) pe_int (fun _ _ => rfl))) (pg_name (i := 7) sc__law_found.nd rfl (.inr rfl))
      (pss_cons (ps_setLc (i := 8) (own := [("row", 11)]) (g := gName 11) rfl sc__law_found.nd rfl rfl (sw_true rfl rfl rfl (by decide +kernel)) (kpil (K := K) rfl (pv 3)) (blkOk_by (N := ["group", "kinds", "card", "issuers", "day", "fields", "rows", "name", "known", "book", "index", "row", "kind", "field", "size"]) (sc := defScope s__law_found) (by decide +kernel))
        (fun _ _ _ _ _ => (pg_name (i := 11) sc__law_found.nd rfl (.inl rfl))) (fun _ _ _ _ _ => pts_one (pt_cmpR op_eq (kfld (K := K) rfl (pe_ix (kixs (K := K) rfl) (pv 11) pe_int (fun _ _ => rfl))) (pv 7) (nomark _)))
        (fun _ _ _ _ _ => (pv 11)))
      (pss_cons (ps_if (PW.pt (pw_or (pt_cmpR op_eq (pe_callB (klen (K := K) rfl) (by rfl) B.len bt_len (pa_cons (pv 8) pa_nil)) pe_int (nomark _)) (pw_or (pt_not (pt_val (pe_ix (kixs (K := K) rfl) (pe_ix (kixs (K := K) rfl) (pv 8) pe_int (fun _ _ => rfl)) pe_int (fun _ _ => rfl)))) (pw_or1 (pt_cmpR (op_ninL hr (by omega)) (pe_tupF (pa_cons (pe_ix (kixs (K := K) rfl) (pv 2) pe_int (fun _ _ => rfl)) (pa_cons (pv 5) pa_nil))) (pe_ix (kixs (K := K) rfl) (pe_ix (kixs (K := K) rfl) (pv 8) pe_int (fun _ _ => rfl)) pe_int (fun _ _ => rfl)) rfl))))) (pss_one (ps_ret pe_str)) pss_nil)
      (pss_cons (ps_set (i := 9) sc__law_found.nd rfl (.inl rfl) (kfld (K := K) rfl (pe_ix (kixs (K := K) rfl) (pe_ix (kixs (K := K) rfl) (pv 8) pe_int (fun _ _ => rfl)) pe_int (fun _ _ => rfl))))
      (pss_one (ps_for PassesOwn.never rfl (pi_range1 rfl B.range (pa_cons (pe_callB (klen (K := K) rfl) (by rfl) B.len bt_len (pa_cons (pv 9) pa_nil)) pa_nil)) (pg_name (i := 10) sc__law_found.nd rfl (.inl rfl))
      (pss_cons (ps_set (i := 11) sc__law_found.nd rfl (.inl rfl) (pe_ix (kixs (K := K) rfl) (pv 9) (pv 10) (fun _ _ => rfl)))
      (pss_one (ps_if (PW.pt (pw_and (pt_cmpR op_eq (pe_ix (kixs (K := K) rfl) (pv 11) pe_int (fun _ _ => rfl)) (pe_ix (kixs (K := K) rfl) (pv 2) pe_int (fun _ _ => rfl)) (nomark _)) (pw_and (pt_cmpR op_le (pe_ix (kixs (K := K) rfl) (pv 11) pe_int (fun _ _ => rfl)) (pv 4) (nomark _)) (pw_and1 (PW.pt (pw_or (pt_cmpR op_isN (pe_ix (kixs (K := K) rfl) (pv 11) pe_int (fun _ _ => rfl)) pe_non (nomark _)) (pw_or1 (pt_cmpR op_gt (pe_ix (kixs (K := K) rfl) (pv 11) pe_int (fun _ _ => rfl)) (pv 4) (nomark _))))))))) (pss_one (ps_expr (pe_bm PySem.F.plainAttrs_list PySem.F.slot_list_append PySem.F.type_list_append mt_append (pv 6) (pa_cons (pe_tupF (pa_cons (pv 7) (pa_cons (pv 10) (pa_cons (pe_ix (kixs (K := K) rfl) (pv 11) pe_int (fun _ _ => rfl)) pa_nil)))) pa_nil)))) pss_nil)))))))))
      (pss_cons (ps_if (pt_cmpR op_eq (pe_callB (klen (K := K) rfl) (by rfl) B.len bt_len (pa_cons (pv 6) pa_nil)) pe_int (nomark _)) (pss_one (ps_ret pe_str)) pss_nil)
      (pss_cons (ps_if (pt_cmpR op_gt (pe_callB (klen (K := K) rfl) (by rfl) B.len bt_len (pa_cons (pv 6) pa_nil)) pe_int (nomark _)) (pss_one (ps_ret pe_str)) pss_nil)
      (pss_one (ps_ret (pe_callTy (ktupF (K := K) rfl) (by rfl) B.tuple bt_tuple (pa_cons (pv 6) pa_nil))))))))))),
    fn_run h (fun po => (s_seq (s_set fun _ => (a_op pst_pk rok_ix (a_pk (a_fz (a_lc (vs := [12, 5]) (i_list a_var) (g_tup (g_cons (g_name (by decide)) (g_cons (g_name (by decide)) g_nil tot_name) tot_name)) (a_test (a_op pst_rv rok_eq a_var (a_op pst_pk rok_ix (a_pk a_var) a_int))) a_var))) a_int))
      (s_seq (s_if (fun _ => (a_test (a_op pst_rv rok_B0 (a_op pst_rv rok_I0 (a_b1 u_len (a_pk a_var)) a_int) (a_b1 u_len (a_pk (a_op pst_pk rok_ix (a_pk a_var) a_int)))))) (s_ret fun _ => a_str) s_next)
      (s_seq (s_if (fun _ => (a_test (a_op pst_rv rok_B0 (a_b1 u_len (a_pk (a_fz (a_lc (vs := [13, 14]) (i_tup a_var) (g_tup (g_cons (g_name (by decide)) (g_cons (g_name (by decide)) g_nil tot_name) tot_name)) (a_test (a_op pst_rv rok_B0 a_var (a_op pst_pk rok_ix (a_pk a_var) a_int))) a_var)))) a_int))) (s_ret fun _ => a_str) s_next)
      (s_seq (s_setO fun _ => (a_lst a_nil))
      (s_seq (s_for (vs := [7]) (fun _ => (i_tup (a_op pst_pk rok_ix (a_pk a_var) a_int))) (fun _ => (g_name (by decide)))
      (s_seq (s_set fun _ => (a_fz (a_lc (vs := [11]) (i_list a_var) (g_name (by decide)) (a_test (a_op pst_rv rok_eq (a_fld T5.cl T5.n_name (c := 5) (i := 0) rfl (a_op pst_pk rok_ix (a_pk a_var) a_int)) a_var)) a_var)))
      (s_seq (s_if (fun _ => (a_or (a_test (a_op pst_rv rok_eq (a_b1 u_len (a_pk a_var)) a_int)) (a_or (a_not (a_tb (a_op pst_pk rok_ix (a_pk (a_op pst_pk rok_ix (a_pk a_var) a_int)) a_int))) (a_test (a_op pst_rv rok_inS (a_tup (a_cons (a_op pst_pk rok_ix (a_pk a_var) a_int) (a_cons a_var a_nil))) (a_pk (a_op pst_pk rok_ix (a_pk (a_op pst_pk rok_ix (a_pk a_var) a_int)) a_int))))))) (s_ret fun _ => a_str) s_next)
      (s_seq (s_set fun _ => (a_fld T5.cl T5.n_book (c := 5) (i := 3) rfl (a_op pst_pk rok_ix (a_pk (a_op pst_pk rok_ix (a_pk a_var) a_int)) a_int)))
      (s_for (vs := [10]) (fun _ => (i_ran1 (a_cons (a_b1 u_len (a_pk a_var)) a_nil))) (fun _ => (g_name (by decide)))
      (s_seq (s_set fun _ => (a_op pst_pk rok_ix (a_pk a_var) a_var))
      (s_if (fun _ => (a_and (a_test (a_op pst_rv rok_eq (a_op pst_pk rok_ix (a_pk a_var) a_int) (a_op pst_pk rok_ix (a_pk a_var) a_int))) (a_and (a_test (a_op pst_rv rok_B0 (a_op pst_pk rok_ix (a_pk a_var) a_int) a_var)) (a_or (a_test (a_op pst_rv rok_isN (a_op pst_pk rok_ix (a_pk a_var) a_int) a_non)) (a_test (a_op pst_rv rok_B0 (a_op pst_pk rok_ix (a_pk a_var) a_int) a_var)))))) (s_app fun _ => (a_tup (a_cons a_var (a_cons a_var (a_cons (a_op pst_pk rok_ix (a_pk a_var) a_int) a_nil))))) s_next)))))))
      (s_seq (s_if (fun _ => (a_test (a_op pst_rv rok_eq (a_b1 u_len a_peek) a_int))) (s_ret fun _ => a_str) s_next)
      (s_seq (s_if (fun _ => (a_test (a_op pst_rv rok_B0 (a_b1 u_len a_peek) a_int))) (s_ret fun _ => a_str) s_next)
      (s_ret fun _ => (a_b1 u_tupOf a_peek)))))))))) (fun ds P a => by obtain ⟨_, _, _, _, _, _, _, _, rfl, _⟩ := a; exact Nat.le_of_ble_eq_true rfl) ?_⟩)
  rintro ds P ⟨p, q, day, bs, bs0, ks, c, is, rfl, ⟨kok, nd, l1, l2, ⟨kf, mk⟩, iok⟩, hp⟩
  have kl : ks.length ≤ 2 := by rcases ks_shape kok with ⟨_, e⟩ | ⟨_, _, e⟩ <;> rw [e] <;> exact Nat.le_of_ble_eq_true rfl
  have ek : kfO ks c = kf := by unfold kfO; rw [lkK_of kok mk]; rfl
  rw [ek] at hp
  have k4 : kf.length ≤ 4 := (kok.fs _ mk).1
  refine seqG fun N hN => ?_
  unfold cdD
  walk_at "dw"
  refine ⟨by rw [List.length_map]; omega, ?_⟩
  refine lcA_filL (g := fun k : Kd => Dat.tup (k.2.map fmD)) (fun k => decide (k.1 = c.kn)) (fun k hk Q q1 q2 => ?_) ?_
  · unfold kdT
    walk_at "dw"
    refine twoD (fun e => q1 (decide_eq_true e)) (fun e => q2 (decide_eq_false e))
  rw [ks_filt kok mk]
  walk_at "dw"
  show N _
  subst hN
  refine seqG fun N hN => ?_
  unfold lgD
  walk_at "dw"
  rw [List.length_map, List.length_map]
  refine twoD (fun e1 => ?_) (fun e1 => ?_)
  · unfold cardR at hp
    rw [if_pos (by omega)] at hp
    exact hp
  subst hN
  refine seqG fun N hN => ?_
  walk_at "dw"
  refine ⟨by rw [List.length_map]; omega, ?_⟩
  refine lcA_filL (g := fun f : Fld => Dat.int f.2) (fun f => decide (q < f.2)) (fun k hk Q q1 q2 => ?_) ?_
  · unfold fmD
    walk_at "dw"
    refine twoD (fun e => q1 (decide_eq_true e)) (fun e => q2 (decide_eq_false e))
  rw [List.length_map]
  have ea : ∀ b : Bool, kf.any (fun f => decide (q < f.2)) = b ↔ (0 < (kf.filter fun f => decide (q < f.2)).length) = (b = true) := fun b => by
    cases h : kf.any (fun f => decide (q < f.2)) with
    | true => 
      have : 0 < (kf.filter fun f => decide (q < f.2)).length := by
        obtain ⟨f, hf, h2⟩ := List.any_eq_true.mp h
        exact List.length_pos_of_mem (List.mem_filter.mpr ⟨hf, h2⟩)
      cases b <;> simp [this]
    | false =>
      have : (kf.filter fun f => decide (q < f.2)) = [] := by
        rw [List.filter_eq_nil_iff]
        exact List.any_eq_false.mp h
      rw [this]
      cases b <;> simp
  refine twoD (fun e2 => ?_) (fun e2 => ?_)
  · have := (ea true).mpr (by simpa using e2)
    unfold cardR at hp
    rw [if_neg (by omega), if_pos this] at hp
    exact hp
  have e2' := (ea false).mpr (by simpa using e2)
  have ec : cardR q p bs is day kf c = if c.is.all (okI p q bs c.kn kf is) = false then .inl "issuer" else
    if (((c.is.filterMap (fI is)).map (rwI c.kn day)).flatten) = [] then .inl "rows" else if 8 < (((c.is.filterMap (fI is)).map (rwI c.kn day)).flatten).length then .inl "many" else .inr (((c.is.filterMap (fI is)).map (rwI c.kn day)).flatten) := by
    unfold cardR
    rw [if_neg (by omega), if_neg (by rw [e2']; decide)]
  rw [ec] at hp
  clear ec ea e2' e2
  subst hN
  refine seqG fun N hN => ?_
  walk_at "dw"
  subst hN
  refine seqG fun N hN => ?_
  walk_at "dw"
  obtain ⟨all, hall⟩ : ∃ all, all = ((c.is.filterMap (fI is)).map (rwI c.kn day)).flatten := ⟨_, rfl⟩
  rw [← hall] at hp
  have kdo := kd_ok kok mk
  refine forA_suf (f := Dat.str) (fun xs env => ∃ (acc : List Rw) (t7 t8 t9 t10 t11 : Sl), env = [Sl.d (.tup [.int p, .int q, .lst (bs.map .int)]), Sl.d (.lst (ks.map kdT)), Sl.d (.tup [.str c.nm, .str c.kn, .tup (c.is.map .str)]), Sl.d (.lst (is.map (liD bs))), Sl.d (.int day), Sl.d (.tup (kf.map fmD)), Sl.o (acc.map rwD), t7, t8, t9, t10, t11, Sl.u, Sl.u, Sl.u] ∧ all = acc ++ ((xs.filterMap (fI is)).map (rwI c.kn day)).flatten ∧ acc.length + 5 * xs.length ≤ 500 ∧ (∀ x ∈ xs, x ∈ c.is) ∧ (∀ x ∈ c.is, x ∈ xs ∨ okI p q bs c.kn kf is x = true)) ?_ ?_ c.is _ ⟨[], _, _, _, _, _, rfl, hall, by rw [List.length_nil]; omega, fun _ h => h, fun _ h => .inl h⟩
  · rintro nm xs env ⟨acc, t7, t8, t9, t10, t11, rfl, i1, i2, i3, i4⟩ N2 hN2
    have bad : okI p q bs c.kn kf is nm = false → P (.str "issuer") := fun e => by
      rw [if_pos (List.all_eq_false.mpr ⟨nm, i3 nm List.mem_cons_self, by rw [e]; decide⟩)] at hp
      exact hp
    refine seqG fun N3 hN3 => ?_
    walk_at "dw"
    refine ⟨by rw [List.length_map]; omega, ?_⟩
    refine lcA_filL (g := liD bs) (fun i => decide (i.n = nm)) (fun i hi Q q1 q2 => ?_) ?_
    · unfold liD iqD at q1 ⊢
      walk_at "dw"
      refine twoD (fun e => q1 (decide_eq_true e)) (fun e => q2 (decide_eq_false e))
    rw [fI_filt nd]
    subst hN3
    refine seqG fun N3 hN3 => ?_
    cases e : fI is nm with
    | none =>
      have b := bad (by unfold okI; rw [e])
      walk_at "dw"
      exact b
    | some i =>
      have mi := (fI_mem e)
      have io := iok i mi.1
      have eo : okI p q bs c.kn kf is nm = decide (i.bs = bs ∧ (c.kn, kf) ∈ i.ks) := by
        unfold okI
        rw [e]
        show decide _ = decide _
        rw [io.p_, io.q_]
        simp
      rw [show (some i).toList = [i] from rfl]
      unfold liD iqD
      walk_at "dw"
      refine twoD (fun z => absurd z (by decide)) (fun _ => ?_)
      refine twoN (fun e1 => bad (eo.trans (decide_eq_false fun z => e1 z.1))) (fun e1 => ?_)
      refine ⟨fun e' he => ?_, fun b hb => ?_⟩
      · obtain ⟨k, hk, rfl⟩ := List.mem_map.mp he
        exact ⟨okE_kdT (io.ko k hk), okE_kdT (k := (c.kn, kf)) kdo⟩
      have hmem : b = true ↔ (c.kn, kf) ∈ i.ks := hb.trans ⟨fun z => by
        obtain ⟨k, hk, ek⟩ := List.mem_map.mp z
        obtain rfl := kdT_inj (k' := (c.kn, kf)) ek
        exact hk, fun z => List.mem_map.mpr ⟨_, z, rfl⟩⟩
      cases b with
      | false => exact bad (eo.trans (decide_eq_false fun z => absurd (hmem.mpr z.2) (by decide)))
      | true =>
        have ok1 : okI p q bs c.kn kf is nm = true := eo.trans (decide_eq_true ⟨e1, hmem.mp rfl⟩)
        show N3 _
        subst hN3
        refine seqG fun N3 hN3 => ?_
        walk_at "dw"
        subst hN3
        walk_at "dw"
        rw [List.length_map]
        have lr := io.lr
        refine ⟨by omega, by omega, ?_⟩
        rw [Int.toNat_natCast]
        have nn : i.n = nm := mi.2
        have eR : rwI c.kn day i = (i.rows.zipIdx.filter fun x => decide (x.1.kn = c.kn) && Cnt x.1 day).map fun x => (i.n, ((x.2 : Nat) : Int), x.1.el) := rfl
        have hSt : ∃ W : Nat → List Sl → Prop, ∀ j env, W j env ↔ ∃ (t10 t11 : Sl), env = [Sl.d (.tup [.int p, .int q, .lst (bs.map .int)]), Sl.d (.lst (ks.map kdT)), Sl.d (.tup [.str c.nm, .str c.kn, .tup (c.is.map .str)]), Sl.d (.lst (is.map (liD bs))), Sl.d (.int day), Sl.d (.tup (kf.map fmD)), Sl.o ((acc ++ ((i.rows.zipIdx.take j).filter fun x => decide (x.1.kn = c.kn) && Cnt x.1 day).map fun x => (i.n, ((x.2 : Nat) : Int), x.1.el)).map rwD), Sl.d (.str nm), Sl.d (.lst [liD bs i]), Sl.d (.lst (i.rows.map rowD)), t10, t11, Sl.u, Sl.u, Sl.u] := ⟨_, fun _ _ => Iff.rfl⟩
        obtain ⟨W, hW⟩ := hSt
        refine forA_ran W ((hW _ _).mpr ⟨_, _, by rw [List.take_zero, List.filter_nil, List.map_nil, List.append_nil]; rfl⟩) ?_ ?_
        · intro j env hj w N4 hN4
          obtain ⟨t10, t11, rfl⟩ := (hW _ _).mp w
          clear w
          refine seqG fun N5 hN5 => ?_
          walk_at "dw"
          have hr : i.rows[j]? = some i.rows[j] := List.getElem?_eq_getElem hj
          have hz : i.rows.zipIdx.take (j + 1) = i.rows.zipIdx.take j ++ [(i.rows[j], j)] := by
            rw [List.take_add_one, List.getElem?_zipIdx, hr]
            rw [Nat.zero_add]
            rfl
          refine oa_at (Int.zero_add _) hr ?_
          subst hN5
          generalize i.rows[j] = r at hz
          walk_at "dw"
          simp only [rowIx0, rowIx2, rowIx3]
          walk_at "dw"
          have lf : ((acc ++ ((i.rows.zipIdx.take j).filter fun x => decide (x.1.kn = c.kn) && Cnt x.1 day).map fun x => (i.n, ((x.2 : Nat) : Int), x.1.el)).map rwD).length < 100000 := by
            have h1 := List.length_filter_le (fun x : BRow × Nat => decide (x.1.kn = c.kn) && Cnt x.1 day) (i.rows.zipIdx.take j)
            rw [List.length_take] at h1
            rw [List.length_map, List.length_append, List.length_map]
            omega
          have stepF : ∀ y : Bool, (decide (r.kn = c.kn) && Cnt r day) = y → ((i.rows.zipIdx.take (j + 1)).filter fun x => decide (x.1.kn = c.kn) && Cnt x.1 day) = ((i.rows.zipIdx.take j).filter fun x => decide (x.1.kn = c.kn) && Cnt x.1 day) ++ (if y = true then [(r, j)] else []) := fun y hy => by
            rw [hz, List.filter_append]
            refine congrArg _ ?_
            rw [List.filter_cons, hy]
            rfl
          have eY : ∀ L : List (BRow × Nat), (acc ++ (L ++ [(r, j)]).map fun x => (i.n, ((x.2 : Nat) : Int), x.1.el)).map rwD = (acc ++ L.map fun x => (i.n, ((x.2 : Nat) : Int), x.1.el)).map rwD ++ [Dat.tup [.str nm, .int (0 + (j : Int)), .int r.el]] := fun L => by
            rw [Int.zero_add, ← nn]
            simp only [List.map_append, List.append_assoc, List.map_cons, List.map_nil]
            rfl
          have no : (decide (r.kn = c.kn) && Cnt r day) = false → N4 [Sl.d (.tup [.int p, .int q, .lst (bs.map .int)]), Sl.d (.lst (ks.map kdT)), Sl.d (.tup [.str c.nm, .str c.kn, .tup (c.is.map .str)]), Sl.d (.lst (is.map (liD bs))), Sl.d (.int day), Sl.d (.tup (kf.map fmD)), Sl.o ((acc ++ ((i.rows.zipIdx.take j).filter fun x => decide (x.1.kn = c.kn) && Cnt x.1 day).map fun x => (i.n, ((x.2 : Nat) : Int), x.1.el)).map rwD), Sl.d (.str nm), Sl.d (.lst [liD bs i]), Sl.d (.lst (i.rows.map rowD)), Sl.d (.int (0 + (j : Int))), Sl.d (rowD r), Sl.u, Sl.u, Sl.u] := fun z => hN4 _ ((hW _ _).mpr ⟨_, _, by rw [stepF _ z, if_neg (by decide), List.append_nil]⟩)
          have yes : (decide (r.kn = c.kn) && Cnt r day) = true → kIx (rowD r) (.int 1) fun x => N4 [Sl.d (.tup [.int p, .int q, .lst (bs.map .int)]), Sl.d (.lst (ks.map kdT)), Sl.d (.tup [.str c.nm, .str c.kn, .tup (c.is.map .str)]), Sl.d (.lst (is.map (liD bs))), Sl.d (.int day), Sl.d (.tup (kf.map fmD)), Sl.o (((acc ++ ((i.rows.zipIdx.take j).filter fun x => decide (x.1.kn = c.kn) && Cnt x.1 day).map fun x => (i.n, ((x.2 : Nat) : Int), x.1.el)).map rwD) ++ [.tup [.str nm, .int (0 + (j : Int)), x]]), Sl.d (.str nm), Sl.d (.lst [liD bs i]), Sl.d (.lst (i.rows.map rowD)), Sl.d (.int (0 + (j : Int))), Sl.d (rowD r), Sl.u, Sl.u, Sl.u] := fun z => by
            show N4 _
            refine hN4 _ ((hW _ _).mpr ⟨_, _, by rw [stepF _ z, if_pos rfl, eY]⟩)
          refine twoD (fun e1 => ?_) (fun e1 => no (by rw [decide_eq_false e1, Bool.false_and]))
          refine twoD (fun e2 => ?_) (fun e2 => no (by unfold Cnt; rw [decide_eq_false e2, Bool.false_and, Bool.and_false]))
          have cn : (decide (r.kn = c.kn) && Cnt r day) = (match r.rev with
              | none => true
              | some d => decide (day < d)) := by
            unfold Cnt
            rw [decide_eq_true e1, decide_eq_true e2, Bool.true_and, Bool.true_and] <;> rfl
          cases er : r.rev with
          | none =>
            rw [er] at cn
            unfold drD
            walk_at "dw"
            exact ⟨lf, yes cn⟩
          | some d =>
            rw [er] at cn
            unfold drD
            walk_at "dw"
            refine twoD (fun e3 => ⟨lf, yes (cn.trans (decide_eq_true e3))⟩) (fun e3 => no (cn.trans (decide_eq_false e3)))
        · intro env w
          obtain ⟨t10, t11, rfl⟩ := (hW _ _).mp w
          rw [List.take_of_length_le (by rw [List.length_zipIdx]; exact Nat.le_refl _), ← eR]
          refine hN2 _ ⟨acc ++ rwI c.kn day i, _, _, _, _, _, rfl, ?_, ?_, fun x hx => i3 x (List.mem_cons_of_mem _ hx), fun x hx => ?_⟩
          · rw [i1, List.filterMap_cons, e]
            show _ = acc ++ rwI c.kn day i ++ _
            rw [List.map_cons, List.flatten_cons, List.append_assoc]
          · have h1 := List.length_filter_le (fun x : BRow × Nat => decide (x.1.kn = c.kn) && Cnt x.1 day) i.rows.zipIdx
            rw [List.length_zipIdx] at h1
            rw [List.length_append, eR, List.length_map]
            rw [List.length_cons] at i2
            omega
          · rcases i4 x hx with h | h
            · rcases List.mem_cons.mp h with rfl | h
              · exact .inr ok1
              · exact .inl h
            · exact .inr h
  · rintro env ⟨acc, t7, t8, t9, t10, t11, rfl, i1, i2, i3, i4⟩
    have all1 : c.is.all (okI p q bs c.kn kf is) = true := List.all_eq_true.mpr fun x hx => (i4 x hx).elim (fun h => nomatch h) id
    obtain rfl : all = acc := by rw [i1, List.filterMap_nil, List.map_nil, List.flatten_nil, List.append_nil]
    rw [if_neg (by rw [all1]; decide)] at hp
    show N _
    subst hN
    refine seqG fun N hN => ?_
    walk_at "dw"
    rw [List.length_map]
    refine twoD (fun e => ?_) (fun e => ?_)
    · rw [if_pos (List.length_eq_zero_iff.mp (by omega))] at hp
      exact hp
    rw [if_neg (fun z => e (by rw [z]; rfl))] at hp
    subst hN
    refine seqG fun N hN => ?_
    walk_at "dw"
    rw [List.length_map]
    refine twoD (fun e2 => ?_) (fun e2 => ?_)
    · rw [if_pos (by omega)] at hp
      exact hp
    rw [if_neg (by omega)] at hp
    subst hN
    walk_at "dw"
    exact hp
end
abbrev s__law_pool : Stmt := top 56
theorem sc__law_pool : FnScope ["script", "budget"] ["script", "budget"] (defScope s__law_pool) := ⟨rfl, rfl, rfl, by decide +kernel, rfl, by decide +kernel, by decide +kernel⟩
section
variable {P : Program} {w : World} {K : PySem.W.Frag} {mg : Str → Option Value} {base : Heap}
def spPool (K : PySem.W.Frag) : Sp := fun vs H Q _ => ∃ (a : Addr) (ns : List Int) (z : Int), vs = [.ref a, .int z] ∧ SqL K H a (ns.map V.int) ∧
  ∀ p c H', Same H H' → H p = none → PoolAt H' p c → Q (.ref p) H'
theorem ok_law_pool {f : Addr} {fd : FuncData} (F : Fun K "_law_pool" "_law_pool" s__law_pool f fd) (B : Blt mg) : FnOk P w K mg base CX0 1 f fd ["script", "budget"] (spPool K) := by
  refine F.ok sc__law_pool (fun vs H Q E h => ?_) (fun cdv A outer s H vs Q E hr h => ?_)
  · obtain ⟨a, ns, z, rfl, _⟩ := h
    rfl
  · obtain ⟨a, ns, z, rfl, hS, q⟩ := h
    refine ⟨_, (pss_one (ps_ret (pe_lst (pa_cons (pe_callTy (klist (K := K) rfl) (by rfl) B.list bt_list (pa_cons (pv 0) pa_nil)) (pa_cons pe_int (pa_cons pe_int (pa_cons pe_int (pa_cons pe_int (pa_cons (pv 1) pa_nil))))))))), ?_⟩
    walk_at "go"
    intro c hc
    walk_at "go"
    intro p hp
    have s1 := same_new (o := .lst (ns.map V.int)) hc
    refine q p c _ (s1.trans (same_new hp)) (s1.free hp) ⟨ns, 0, 0, 1, 0, z, upd_same, ?_, by omega, by omega, by omega⟩
    rw [upd_ne (ne_of_none upd_same hp), upd_same]
end
def spLaw (K : PySem.W.Frag) : Sp := fun vs H Q _ => ∃ (a : Addr) (ns : List Int), vs = [.ref a] ∧ SqL K H a (ns.map V.int) ∧ ∀ H', Q (.bl true) H'
theorem law_runB {K : PySem.W.Frag} {ca : Nat → Addr} {a p c : Addr} {n : Nat} {H1 : Hp} {Q : VK} {ts : TS} {E : XS} {bs : BSt} (hs : ∀ po, BStm ⟨K, ca, po⟩ E ts bs) (hP : PoolAt H1 p c) (z : ∀ H', Q (.bl true) H')
    (hb : bs { nx := fun _ _ => False, rt := fun d _ => d = .bl true } (.u :: .d .pool :: List.replicate n .u) (fun _ => none)) : ts { nx := fun _ H' => Q .non H', rt := Q } (some (.ref a) :: some (.ref p) :: List.replicate n none) H1 := by
  have ok : Okk ⟨K, ca, some (p, c)⟩ (fun _ => False) H1 := ⟨fun _ f => f.elim, fun p' c' e => by
    cases e
    exact ⟨hP, fun f => f, fun f => f⟩⟩
  have rep : ∀ (i : Nat) (s : Sl), (List.replicate n Sl.u)[i]? = some s → s = .u ∧ i < n := fun i s e => by
    obtain ⟨hb, e⟩ := List.getElem?_eq_some_iff.mp e
    rw [List.getElem_replicate] at e
    rw [List.length_replicate] at hb
    exact ⟨e.symm, hb⟩
  have m : Mt ⟨K, ca, some (p, c)⟩ H1 (fun _ => False) H1 (some (.ref a) :: some (.ref p) :: List.replicate n none) (.u :: .d .pool :: List.replicate n .u) := by
    refine ⟨by simp, fun i s e => ?_, fun i j xs ys b e => ?_⟩
    · match i with
      | 0 => cases e; exact ⟨_, rfl, trivial⟩
      | 1 => cases e; exact ⟨_, rfl, _, rfl, .pool rfl⟩
      | i + 2 =>
        obtain ⟨rfl, hi⟩ := rep i s e
        refine ⟨none, ?_, trivial⟩
        show (List.replicate n (none : Option V))[i]? = _
        rw [List.getElem?_eq_getElem (by rw [List.length_replicate]; exact hi), List.getElem_replicate]
    · match i with
      | 0 => cases e
      | 1 => cases e
      | i + 2 =>
        have := (rep i _ e).1
        cases this
  have st : SoOk ⟨K, ca, some (p, c)⟩ (fun _ => False) H1 (fun _ => none) := ⟨ok, fun _ _ e => by cases e⟩
  have m2 : Mt2 ⟨K, ca, some (p, c)⟩ H1 (fun _ => False) H1 (fun _ => none) (some (.ref a) :: some (.ref p) :: List.replicate n none) (.u :: .d .pool :: List.replicate n .u) := m
  exact (hs (some (p, c))).run _ H1 _ _ H1 _ { nx := fun _ _ => False, rt := fun d _ => d = .bl true } _ _ _ H1 _ ⟨⟨.refl st, Sub.refl _ _⟩, m2⟩
    ⟨fun σ env F' H' M' b m p => p.elim, fun v d F' H' M' b r e => by
      subst e
      cases r
      exact z H', fun _ _ _ _ _ _ _ p => p.elim, fun _ _ _ _ _ _ _ p => p.elim, fun _ _ _ _ _ _ _ => .zero⟩ hb
theorem law_startB {K : PySem.W.Frag} {ca : Nat → Addr} {a : Addr} {ns : List Int} {x y : Str} {N : List Str} {b : Int} {E' : XK} {H : Hp} {Q : VK} {ts : TS} {E : XS} {bs : BSt} (hS : SqL K H a (ns.map V.int)) (z : ∀ H', Q (.bl true) H') (hs : ∀ po, BStm ⟨K, ca, po⟩ E ts bs)
    (hb : bs { nx := fun _ _ => False, rt := fun d _ => d = .bl true } (.u :: .d .pool :: List.replicate N.length .u) (fun _ => none)) :
    tSeq (tAsg (tCall (spPool K) [] E' (tCons (tVar 0) (tCons (tC (.int b)) tNil))) (gName 1)) ts { nx := fun _ H' => Q .non H', rt := Q } (L2.start (x :: y :: N) [.ref a]) H :=
  ⟨_, rfl, a, ns, _, rfl, hS, fun p c H1 s1 n1 hP => law_runB hs hP z hb⟩
abbrev s_law : Stmt := top 69
theorem sc_law : FnScope ["script", "pool", "group", "kinds", "issuers", "cards", "k", "names", "used", "day", "due", "bad", "card", "found", "policy", "made", "actual", "e", "name", "kind", "fields", "row", "field", "size"] ["script"] (defScope s_law) := ⟨rfl, rfl, rfl, by decide +kernel, rfl, by decide +kernel, by decide +kernel⟩
/-- the error classes -/
structure Errs32 (K : PySem.W.Frag) (mg : Str → Option Value) (ca : Nat → Addr) (CV CG CO CR CT CU : Addr) : Prop where
  VouchError : mg "VouchError" = some (.ref CV)
  BadGroup : mg "BadGroup" = some (.ref CG)
  BadOpening : mg "BadOpening" = some (.ref CO)
  BadQuestion : mg "BadQuestion" = some (.ref (ca 12))
  BadRequest : mg "BadRequest" = some (.ref CR)
  BadText : mg "BadText" = some (.ref CT)
  BadTurn : mg "BadTurn" = some (.ref CU)
theorem GOk.take4 {p q : Int} {bs : List Int} (g : GOk p q bs) (l : 6 ≤ bs.length) : GOk p q (bs.take 4) := by
  have lm := g.lm
  refine ⟨g.p3, g.pm, g.pp, g.qp, g.dv, by rw [List.length_take]; omega, by rw [List.length_take]; omega, fun b hb => g.el b (List.mem_of_mem_take hb), ?_⟩
  exact List.Nodup.sublist (List.take_sublist 4 bs) g.nd
theorem iss_of {p q : Int} {bs : List Int} : ∀ {xs : List Str} {ys : List Dat}, Paired (fun nm y => ∃ i : Iq, y = liD bs i ∧ IqOk nm p q i) xs ys → ∃ is : List Iq, ys = is.map (liD bs) ∧ is.map (·.n) = xs ∧ ∀ i ∈ is, IqOk i.n p q i
  | _, _, .nil => ⟨[], rfl, rfl, fun _ h => nomatch h⟩
  | _, _, .cons r t => by
    obtain ⟨is, rfl, rfl, h⟩ := iss_of t
    obtain ⟨i, rfl, io⟩ := r
    have en := io.n_
    refine ⟨i :: is, rfl, by rw [List.map_cons, en], fun j hj => ?_⟩
    rcases List.mem_cons.mp hj with rfl | hj
    · rw [en]
      exact io
    · exact h j hj
theorem mow_at : ∀ i : Nat, i < 3 → ∃ c, atI (Str.ofString "mow").cps.toList (0 + (i : Int)) = some c ∧ PyData.strOk (⟨#[c]⟩ : Str) = true
  | 0, _ => ⟨109, by decide +kernel, by decide +kernel⟩
  | 1, _ => ⟨111, by decide +kernel, by decide +kernel⟩
  | 2, _ => ⟨119, by decide +kernel, by decide +kernel⟩
  | i + 3, h => absurd h (by omega)
def nmsL : List (List Str) := [["town"], ["state", "town"], ["town", "land"], ["land", "state", "town"]]
theorem nmsL_ok : ∀ l ∈ nmsL, l.length ≤ 3 ∧ ∀ s ∈ l, PyData.strOk s = true := by decide +kernel
/-- bad, in the law -/
def boD : Option Str → Dat
  | none => .non
  | some e => .str e
theorem badR_snoc {rs : List (Str ⊕ List Rw)} {r : Str ⊕ List Rw} : badR (rs ++ [r]) = (badR rs).or (badR [r]) := by
  induction rs with
  | nil => rfl
  | cons x xs ih =>
    cases x with
    | inl e => rfl
    | inr l => exact ih
theorem good_sum : ∀ {rs : List (Str ⊕ List Rw)}, badR rs = none → rs.map sumD = (goodR rs).map fun r => Dat.tup (r.map rwD)
  | [], _ => rfl
  | .inl _ :: _, h => by cases h
  | .inr r :: rs, h => by
    show sumD (.inr r) :: rs.map sumD = Dat.tup (r.map rwD) :: (goodR rs).map _
    rw [good_sum (rs := rs) h]
    rfl
theorem good_len : ∀ {rs : List (Str ⊕ List Rw)}, (goodR rs).length ≤ rs.length
  | [] => Nat.le_refl _
  | .inl _ :: rs => Nat.le_succ_of_le (good_len (rs := rs))
  | .inr r :: rs => Nat.succ_le_succ (good_len (rs := rs))
theorem good_mem {r : List Rw} : ∀ {rs : List (Str ⊕ List Rw)}, r ∈ goodR rs → Sum.inr r ∈ rs
  | .inl _ :: rs, h => List.mem_cons_of_mem _ (good_mem (rs := rs) h)
  | .inr r' :: rs, h => by
    rcases List.mem_cons.mp h with rfl | h
    · exact List.mem_cons_self
    · exact List.mem_cons_of_mem _ (good_mem (rs := rs) h)
theorem card_le {p q day : Int} {bs : List Int} {is : List Iq} {kf : List Fld} {c : Cd} {r : List Rw} (h : cardR q p bs is day kf c = .inr r) : r.length ≤ 8 := by
  unfold cardR at h
  split at h
  · cases h
  split at h
  · cases h
  split at h
  · cases h
  split at h
  · cases h
  split at h
  · cases h
  cases h
  omega
theorem okS_rw {n : Nat} {x : Rw} : okS (n + 1) (rwD x) := okS_tup (Nat.le_of_ble_eq_true rfl) (fun d hd => by
  simp only [List.mem_cons, List.mem_nil_iff, or_false] at hd
  rcases hd with rfl | rfl | rfl
  · exact okS_str _ _
  · exact okS_int _ _
  · exact okS_int _ _)
theorem eq_pol {cs : List Cd} {P : Dat → Prop} (h : ∀ c ∈ cs, CdOk c) (k : P (.bl true)) : kEqO 8 aspPoEq (poO cs) (poO cs) P := ⟨⟨rfl, rfl⟩, cs, rfl, h, true, rfl, k⟩
theorem flat_len {α : Type} {m : Nat} : ∀ {xs : List (List α)}, (∀ x ∈ xs, x.length ≤ m) → xs.flatten.length ≤ m * xs.length
  | [], _ => Nat.zero_le _
  | x :: xs, h => by
    have h1 := h x List.mem_cons_self
    have h2 := flat_len fun y hy => h y (List.mem_cons_of_mem _ hy)
    rw [List.flatten_cons, List.length_append, List.length_cons, Nat.mul_succ]
    omega
section
variable {P : Program} {w : World} {K : PySem.W.Frag} {mg : Str → Option Value} {base : Heap} {ca : Nat → Addr} {CV CG CO CR CT CU : Addr}
set_option maxHeartbeats 400000 in
theorem ok_law {f : Addr} {fd : FuncData} (F : Fun K "law" "law" s_law f fd) (B : Blt mg) (T0 : GT K (ca 0)) (T3 : KdT K (ca 3)) (T5 : IsT K (ca 5)) (T9 : QuT K (ca 9)) (G : Errs32 K mg ca CV CG CO CR CT CU) (C__law_pool : C8.Cal P w K mg base 1 "_law_pool" (spPool K) []) (E0 : EqM P w K mg base 1 (ca 0) (toSp K ca aspGrEq)) (E8 : EqM P w K mg base 1 (ca 8) (toSp K ca aspPoEq))
    (XE : ExcC K (ca 12)) (XF : XfC K (ca 12) ∧ PySem.W.findIn K (.ref (ca 12)) "what" = some none) (IX_BadQuestion : PySem.W.kitOne K (.ref (ca 12)) (.ref (ca 12)) = some true)
    (IX_BadGroup_BadOpening_BadRequest_BadText_BadTurn : PySem.W.kitAny K (.ref (ca 12)) [.ref CG, .ref CO, .ref CR, .ref CT, .ref CU] = some false) (XK_law : ∀ k ∈ [12], (∃ f, xcN k = some f) ∧ PySem.W.exmOne K (.ref (ca k)) (.ref CV) = some true)
    (C__law_draw : C8.Cal P w K mg base 1 "_law_draw" (toSp K ca aspDraw) []) (C__law_group : C8.Cal P w K mg base 2 "_law_group" (toSp K ca aspLGroup) []) (C__law_kinds : C8.Cal P w K mg base 2 "_law_kinds" (toSp K ca aspLKinds) [])
    (C__law_same : C8.Cal P w K mg base 14 "_law_same" (toSp K ca (aspSame 14)) []) (W__law_same : CalW P w K mg base 1 "_law_same" (toSp K ca aspSameW)) (C__law_issuer : C8.Cal P w K mg base 16 "_law_issuer" (toSp K ca aspLIss) []) (C__law_found : C8.Cal P w K mg base 4 "_law_found" (toSp K ca aspLFound) [])
    (K_Kind : C8.Mak P w K mg base 1 "Kind" (ca 3) (toSpI K ca 3 aspKdI) []) (K_Issuer : C8.Mak P w K mg base 1 "Issuer" (ca 5) (toSpI K ca 5 aspIssI) []) (K_Policy : C8.Mak P w K mg base 2 "Policy" (ca 8) (toSpI K ca 8 aspPolI) []) (X_question_of : CalX P w K mg base 6 "question_of" (toSp2 K ca bspQo))
    (K_Group : C8.Mak P w K mg base 4 "Group" (ca 0) (toSpI K ca 0 aspGroupI) []) : FnOk P w K mg base CX0 24 f fd ["script"] (spLaw K) := by
  refine F.ok sc_law (fun vs H Q E h => ?_) (fun cdv A outer s H vs Q E hr h => ?_)
  · obtain ⟨a, ns, rfl, _⟩ := h
    rfl
  obtain ⟨a, ns, rfl, hS, z⟩ := h
  refine ⟨_, (pss_cons (ps_set (i := 1) sc_law.nd rfl (.inr rfl) (C8.pe_c C__law_pool hr (by omega) rfl (pa_cons (pv 0) (pa_cons pe_int pa_nil))))
      (pss_cons (ps_set (i := 2) sc_law.nd rfl (.inr rfl) (C8.pe_c C__law_group hr (by omega) rfl (pa_cons (pv 1) (pa_cons pe_int (pa_cons pe_int pa_nil)))))
      (pss_cons (ps_set (i := 3) sc_law.nd rfl (.inr rfl) (C8.pe_c C__law_kinds hr (by omega) rfl (pa_cons (pv 1) (pa_cons pe_int pa_nil))))
      (C8.pss_cut (ps_if (pt_cmpR op_gt (C8.pe_c C__law_draw hr (by omega) rfl (pa_cons (pv 1) (pa_cons pe_int pa_nil))) pe_int (nomark _)) (pss_one (ps_set (i := 3) sc_law.nd rfl (.inr rfl) (pe_lc (own := [("name", 18), ("fields", 20)]) (tt := tYes) rfl sc_law.nd (kpil (K := K) rfl (pv 3)) (blkOk_by (N := ["script", "pool", "group", "kinds", "issuers", "cards", "k", "names", "used", "day", "due", "bad", "card", "found", "policy", "made", "actual", "e", "name", "kind", "fields", "row", "field", "size"]) (sc := defScope s_law) (by decide +kernel))
        (fun _ _ _ _ _ => (kgtup (K := K) (n := 2) rfl rfl (pgs_cons (pg_name (i := 18) sc_law.nd rfl (.inl rfl)) (pgs_cons (pg_name (i := 20) sc_law.nd rfl (.inl rfl)) pgs_nil)))) (fun _ _ _ _ _ => pts_nil)
        (fun _ _ _ _ _ => (pe_tupF (pa_cons (pv 18) (pa_cons (pe_callTy (ktupF (K := K) rfl) (by rfl) B.tuple bt_tuple (pa_cons (pe_lc (own := [("field", 22), ("size", 23)]) (tt := tYes) rfl sc_law.nd (kpit (K := K) rfl (pv 20)) (blkOk_by (N := ["script", "pool", "group", "kinds", "issuers", "cards", "k", "names", "used", "day", "due", "bad", "card", "found", "policy", "made", "actual", "e", "name", "kind", "fields", "row", "field", "size"]) (sc := { kind := .function, names := [(".0", .local), ("name", .local), ("fields", .local), ("tuple", .globalImplicit), ("group", .cell)], isGenerator := false, isCoroutine := false }) (by decide +kernel))
        (fun _ _ _ _ _ => (kgtup (K := K) (n := 2) rfl rfl (pgs_cons (pg_name (i := 22) sc_law.nd rfl (.inl rfl)) (pgs_cons (pg_name (i := 23) sc_law.nd rfl (.inl rfl)) pgs_nil)))) (fun _ _ _ _ _ => pts_nil)
        (fun _ _ _ _ _ => (pe_tupF (pa_cons (pv 22) (pa_cons (pe_callB (call_min2 rfl) (by rfl) B.min bt_min (pa_cons (pv 23) (pa_cons (pe_ix (kixs (K := K) rfl) (pv 2) pe_int (fun _ _ => rfl)) pa_nil))) pa_nil))))) pa_nil)) pa_nil))))))) pss_nil)
      (pss_cons (ps_setLc (i := 4) (own := [("name", 18)]) (g := gName 18) (tt := tYes) rfl sc_law.nd rfl rfl (sw_true rfl rfl rfl (by decide +kernel)) (kpit (K := K) rfl (pe_slice (kslF (K := K) rfl) (pe_tupF (pa_cons pe_str (pa_cons pe_str (pa_cons pe_str pa_nil)))) po_none (po_some (pe_op op_add pe_int (C8.pe_c C__law_draw hr (by omega) rfl (pa_cons (pv 1) (pa_cons pe_int pa_nil))))))) (blkOk_by (N := ["script", "pool", "group", "kinds", "issuers", "cards", "k", "names", "used", "day", "due", "bad", "card", "found", "policy", "made", "actual", "e", "name", "kind", "fields", "row", "field", "size"]) (sc := defScope s_law) (by decide +kernel))
        (fun _ _ _ _ _ => (pg_name (i := 18) sc_law.nd rfl (.inl rfl))) (fun _ _ _ _ _ => pts_nil)
        (fun _ _ _ _ _ => (C8.pe_c C__law_issuer hr (by omega) rfl (pa_cons (pv 1) (pa_cons (pv 2) (pa_cons (pv 3) (pa_cons (pv 18) pa_nil)))))))
      (pss_cons (ps_set (i := 5) sc_law.nd rfl (.inl rfl) (pe_lst pa_nil))
      (pss_cons (ps_for PassesOwn.never rfl (pi_range1 rfl B.range (pa_cons (pe_op op_add pe_int (C8.pe_c C__law_draw hr (by omega) rfl (pa_cons (pv 1) (pa_cons pe_int pa_nil)))) pa_nil)) (pg_name (i := 6) sc_law.nd rfl (.inl rfl))
      (pss_cons (ps_set (i := 7) sc_law.nd rfl (.inl rfl) (pe_ix (kixs (K := K) rfl) (pe_lst (pa_cons (pe_tupF (pa_cons pe_str pa_nil)) (pa_cons (pe_tupF (pa_cons pe_str (pa_cons pe_str pa_nil))) (pa_cons (pe_tupF (pa_cons pe_str (pa_cons pe_str pa_nil))) (pa_cons (pe_tupF (pa_cons pe_str (pa_cons pe_str (pa_cons pe_str pa_nil)))) pa_nil))))) (C8.pe_c C__law_draw hr (by omega) rfl (pa_cons (pv 1) (pa_cons pe_int pa_nil))) (fun _ _ => rfl)))
      (pss_one (ps_expr (pe_bm PySem.F.plainAttrs_list PySem.F.slot_list_append PySem.F.type_list_append mt_append (pv 5) (pa_cons (pe_tupF (pa_cons (pe_ix ix_str pe_str (pv 6) (fun _ _ => rfl)) (pa_cons (pe_ix (kixs (K := K) rfl) (pe_ix (kixs (K := K) rfl) (pv 3) (C8.pe_c C__law_draw hr (by omega) rfl (pa_cons (pv 1) (pa_cons (pe_callB (klen (K := K) rfl) (by rfl) B.len bt_len (pa_cons (pv 3) pa_nil)) pa_nil))) (fun _ _ => rfl)) pe_int (fun _ _ => rfl)) (pa_cons (pv 7) pa_nil)))) pa_nil))))))
      (pss_cons (ps_set (i := 8) sc_law.nd rfl (.inl rfl) (pv 2))
      (C8.pss_cut (ps_if (pt_cmpR op_eq (C8.pe_c C__law_draw hr (by omega) rfl (pa_cons (pv 1) (pa_cons pe_int pa_nil))) pe_int (nomark _)) (pss_cons (ps_set (i := 8) sc_law.nd rfl (.inl rfl) (pe_tupF (pa_cons (pe_ix (kixs (K := K) rfl) (pv 2) pe_int (fun _ _ => rfl)) (pa_cons (pe_ix (kixs (K := K) rfl) (pv 2) pe_int (fun _ _ => rfl)) (pa_cons (pe_slice (ksll (K := K) rfl) (pe_ix (kixs (K := K) rfl) (pv 2) pe_int (fun _ _ => rfl)) po_none (po_some pe_int)) pa_nil)))))
      (pss_one (ps_set (i := 4) sc_law.nd rfl (.inl rfl) (pe_lst (pa_cons (pe_tupF (pa_cons (C8.pe_mk K_Issuer hr (by omega) rfl (pa_cons pe_str (pa_cons (C8.pe_mk K_Group hr (by omega) rfl (pa_cons (pe_ix (kixs (K := K) rfl) (pv 8) pe_int (fun _ _ => rfl)) (pa_cons (pe_ix (kixs (K := K) rfl) (pv 8) pe_int (fun _ _ => rfl)) (pa_cons (pe_ix (kixs (K := K) rfl) (pv 8) pe_int (fun _ _ => rfl)) pa_nil)))) (pa_cons (pe_lc (own := [("kind", 19), ("fields", 20)]) (tt := tYes) rfl sc_law.nd (kpil (K := K) rfl (pv 3)) (blkOk_by (N := ["script", "pool", "group", "kinds", "issuers", "cards", "k", "names", "used", "day", "due", "bad", "card", "found", "policy", "made", "actual", "e", "name", "kind", "fields", "row", "field", "size"]) (sc := defScope s_law) (by decide +kernel))
        (fun _ _ _ _ _ => (kgtup (K := K) (n := 2) rfl rfl (pgs_cons (pg_name (i := 19) sc_law.nd rfl (.inl rfl)) (pgs_cons (pg_name (i := 20) sc_law.nd rfl (.inl rfl)) pgs_nil)))) (fun _ _ _ _ _ => pts_nil)
        (fun _ _ _ _ _ => (C8.pe_mk K_Kind hr (by omega) rfl (pa_cons (pv 19) (pa_cons (pv 20) pa_nil))))) pa_nil)))) (pa_cons pe_bl (pa_cons (pv 3) pa_nil)))) pa_nil))))) pss_nil)
      (pss_cons (ps_set (i := 9) sc_law.nd rfl (.inl rfl) (C8.pe_c C__law_draw hr (by omega) rfl (pa_cons (pv 1) (pa_cons pe_int pa_nil))))
      (pss_cons (ps_set (i := 10) sc_law.nd rfl (.inl rfl) (pe_lst pa_nil))
      (pss_cons (ps_set (i := 11) sc_law.nd rfl (.inl rfl) pe_non)
      (pss_cons (ps_for PassesOwn.never rfl (kpil (K := K) rfl (pv 5)) (pg_name (i := 12) sc_law.nd rfl (.inl rfl))
      (pss_cons (ps_set (i := 13) sc_law.nd rfl (.inl rfl) (C8.pe_c C__law_found hr (by omega) rfl (pa_cons (pv 8) (pa_cons (pv 3) (pa_cons (pv 12) (pa_cons (pv 4) (pa_cons (pv 9) pa_nil)))))))
      (C8.pss_cut (ps_if (PW.pt (pw_and (pt_val (pe_callB (kisi (K := K) rfl) (by rfl) B.isinstance bt_isinstance (pa_cons (pv 13) (pa_cons (pe_bltn (v := .ty "str") (u := .type "str") (by rfl) B.str bt_str rfl) pa_nil)))) (pw_and1 (pt_cmpR op_isN (pv 11) pe_non (nomark _))))) (pss_one (ps_set (i := 11) sc_law.nd rfl (.inl rfl) (pv 13))) pss_nil)
      (pss_one (ps_expr (pe_bm PySem.F.plainAttrs_list PySem.F.slot_list_append PySem.F.type_list_append mt_append (pv 10) (pa_cons (pv 13) pa_nil)))))))
      (pss_cons (ps_set (i := 14) sc_law.nd rfl (.inl rfl) (C8.pe_mk K_Policy hr (by omega) rfl (pa_cons (pv 5) (pa_cons (pe_lst pa_nil) pa_nil))))
      (pss_cons (ps_setLc (i := 15) (own := [("kind", 19), ("fields", 20)]) (tt := tYes) rfl sc_law.nd rfl rfl (sw_true rfl rfl rfl (by decide +kernel)) (kpil (K := K) rfl (pv 3)) (blkOk_by (N := ["script", "pool", "group", "kinds", "issuers", "cards", "k", "names", "used", "day", "due", "bad", "card", "found", "policy", "made", "actual", "e", "name", "kind", "fields", "row", "field", "size"]) (sc := defScope s_law) (by decide +kernel))
        (fun _ _ _ _ _ => (kgtup (K := K) (n := 2) rfl rfl (pgs_cons (pg_name (i := 19) sc_law.nd rfl (.inl rfl)) (pgs_cons (pg_name (i := 20) sc_law.nd rfl (.inl rfl)) pgs_nil)))) (fun _ _ _ _ _ => pts_nil)
        (fun _ _ _ _ _ => (C8.pe_mk K_Kind hr (by omega) rfl (pa_cons (pv 19) (pa_cons (pv 20) pa_nil)))))
      (C8.pss_cut ((ps_try_as (i := 17) (Wout := fun _ _ _ _ => False) rfl rfl sc_law.nd rfl rfl ⟨rfl, by decide, .inl G.VouchError⟩ takes0
        (fun W pn xe tk po => (pss_one (ps_set (i := 16) sc_law.nd rfl (.inl rfl) (by exact (pe_cX X_question_of tk hr (by omega) rfl (pa_cons (C8.pe_mk K_Group hr (by omega) rfl (pa_cons (pe_ix (kixs (K := K) rfl) (pv 8) pe_int (fun _ _ => rfl)) (pa_cons (pe_ix (kixs (K := K) rfl) (pv 8) pe_int (fun _ _ => rfl)) (pa_cons (pe_ix (kixs (K := K) rfl) (pv 8) pe_int (fun _ _ => rfl)) pa_nil)))) (pa_cons (pv 15) (pa_cons (pv 14) (pa_cons (pe_lc (own := [("row", 21)]) (g := gName 21) (tt := tYes) rfl sc_law.nd (kpil (K := K) rfl (pv 4)) (blkOk_by (N := ["script", "pool", "group", "kinds", "issuers", "cards", "k", "names", "used", "day", "due", "bad", "card", "found", "policy", "made", "actual", "e", "name", "kind", "fields", "row", "field", "size"]) (sc := defScope s_law) (by decide +kernel))
        (fun _ _ _ _ _ => (pg_name (i := 21) sc_law.nd rfl (.inl rfl))) (fun _ _ _ _ _ => pts_nil)
        (fun _ _ _ _ _ => (pe_ix (kixs (K := K) rfl) (pv 21) pe_int (fun _ _ => rfl)))) (pa_cons (pv 9) pa_nil))))))))))
        (fun a oe cls d pn hz hf => (pss_cons (ps_if (PW.pt (pw_or (pt_val (pe_callB (kisXT (K := K) rfl hz hf) (by rfl) B.isinstance bt_isinstance (pa_cons (pv 17) (pa_cons (pe_tup (pa_cons (pe_globC rfl G.BadGroup) (pa_cons (pe_globC rfl G.BadOpening) (pa_cons (pe_globC rfl G.BadRequest) (pa_cons (pe_globC rfl G.BadText) (pa_cons (pe_globC rfl G.BadTurn) pa_nil)))))) pa_nil)))) (pw_or1 (pt_not (pt_val (pe_callB (kisX (K := K) rfl hz hf) (by rfl) B.isinstance bt_isinstance (pa_cons (pv 17) (pa_cons (pe_globC rfl G.BadQuestion) pa_nil)))))))) (pss_one (ps_ret pe_bl)) pss_nil)
      (pss_one (ps_ret (pe_and (pe_cmpR op_notN (pv 11) pe_non (nomark _)) (pe_one (pe_cW W__law_same (show Rm 23 _ from ⟨hr.dp, hr.un⟩) (by omega) rfl (pa_cons (pe_xf XF.1 XF.2 hz hf (pv 17)) (pa_cons (pv 11) pa_nil)))))))))))
      (pss_cons (ps_if (PW.pt (pw_or (pt_cmpR op_notN (pv 11) pe_non (nomark _)) (pw_or1 (pt_not (pt_val (C8.pe_c C__law_same hr (by omega) rfl (pa_cons (kfld (K := K) rfl (pv 16)) (pa_cons (pe_callTy (ktupF (K := K) rfl) (by rfl) B.tuple bt_tuple (pa_cons (pv 10) pa_nil)) pa_nil)))))))) (pss_one (ps_ret pe_bl)) pss_nil)
      (pss_cons (ps_if (pt_not (pt_val (C8.pe_c C__law_same hr (by omega) rfl (pa_cons (pe_lst (pa_cons (pe_cmpR (op_eqM E0 hr (by omega)) (kfld (K := K) rfl (pv 16)) (C8.pe_mk K_Group hr (by omega) rfl (pa_cons (pe_ix (kixs (K := K) rfl) (pv 8) pe_int (fun _ _ => rfl)) (pa_cons (pe_ix (kixs (K := K) rfl) (pv 8) pe_int (fun _ _ => rfl)) (pa_cons (pe_ix (kixs (K := K) rfl) (pv 8) pe_int (fun _ _ => rfl)) pa_nil)))) (nomark _)) (pa_cons (pe_callB (kisi (K := K) rfl) (by rfl) B.isinstance bt_isinstance (pa_cons (kfld (K := K) rfl (pv 16)) (pa_cons (pe_bltn (v := .ty "tuple") (u := .type "tuple") (by rfl) B.tuple bt_tuple rfl) pa_nil))) pa_nil))) (pa_cons (pe_lst (pa_cons pe_bl (pa_cons pe_bl pa_nil))) pa_nil))))) (pss_one (ps_ret pe_bl)) pss_nil)
      (pss_one (ps_ret (pe_and (C8.pe_c C__law_same hr (by omega) rfl (pa_cons (pe_cmpR (op_eqM E8 hr (by omega)) (kfld (K := K) rfl (pv 16)) (pv 14) (nomark _)) (pa_cons pe_bl pa_nil))) (pe_one (C8.pe_c C__law_same hr (by omega) rfl (pa_cons (pe_lc (own := [("kind", 19)]) (g := gName 19) (tt := tYes) rfl sc_law.nd (kpit (K := K) rfl (kfld (K := K) rfl (pv 16))) (blkOk_by (N := ["script", "pool", "group", "kinds", "issuers", "cards", "k", "names", "used", "day", "due", "bad", "card", "found", "policy", "made", "actual", "e", "name", "kind", "fields", "row", "field", "size"]) (sc := defScope s_law) (by decide +kernel))
        (fun _ _ _ _ _ => (pg_name (i := 19) sc_law.nd rfl (.inl rfl))) (fun _ _ _ _ _ => pts_nil)
        (fun _ _ _ _ _ => (kfld (K := K) rfl (pv 19)))) (pa_cons (pe_lc (own := [("kind", 19), ("fields", 20)]) (tt := tYes) rfl sc_law.nd (kpil (K := K) rfl (pv 3)) (blkOk_by (N := ["script", "pool", "group", "kinds", "issuers", "cards", "k", "names", "used", "day", "due", "bad", "card", "found", "policy", "made", "actual", "e", "name", "kind", "fields", "row", "field", "size"]) (sc := defScope s_law) (by decide +kernel))
        (fun _ _ _ _ _ => (kgtup (K := K) (n := 2) rfl rfl (pgs_cons (pg_name (i := 19) sc_law.nd rfl (.inl rfl)) (pgs_cons (pg_name (i := 20) sc_law.nd rfl (.inl rfl)) pgs_nil)))) (fun _ _ _ _ _ => pts_nil)
        (fun _ _ _ _ _ => (pv 19))) pa_nil))))))))))))))))))))))))), ?_⟩
  refine law_startB (ca := ca) (E := fun _ _ _ _ => False) hS z (fun po => (z_seq (z_set fun _ => (b_up fun _ => (a_call (a_cons a_var (a_cons a_int (a_cons a_int a_nil))))))
      (z_seq (z_set fun _ => (b_up fun _ => (a_call (a_cons a_var (a_cons a_int a_nil)))))
      (z_cut (z_if (fun _ => (b_upT fun _ => (a_test (a_op pst_rv rok_B0 (a_call (a_cons a_var (a_cons a_int a_nil))) a_int)))) (z_set fun _ => (b_up fun _ => (a_fz (a_lc (vs := [18, 20]) (i_list a_var) (g_tup (g_cons (g_name (by decide)) (g_cons (g_name (by decide)) g_nil tot_name) tot_name)) a_yes (a_tup (a_cons a_var (a_cons (a_b1 u_tupOf (a_pk (a_fz (a_lc (vs := [22, 23]) (i_tup a_var) (g_tup (g_cons (g_name (by decide)) (g_cons (g_name (by decide)) g_nil tot_name) tot_name)) a_yes (a_tup (a_cons a_var (a_cons (a_b2 rok_min2 a_var (a_op pst_pk rok_ix (a_pk a_var) a_int)) a_nil))))))) a_nil))))))) z_next)
      (z_seq (z_set fun _ => (b_up fun _ => (a_fz (a_lc (vs := [18]) (i_tup (a_slT (a_tup (a_cons a_str (a_cons a_str (a_cons a_str a_nil)))) ao_none (ao_some (a_op pst_rv rok_I0 a_int (a_call (a_cons a_var (a_cons a_int a_nil))))))) (g_name (by decide)) a_yes (a_call (a_cons a_var (a_cons a_var (a_cons a_var (a_cons a_var a_nil)))))))))
      (z_seq (z_setO fun _ => (b_upF fun _ => (a_lst a_nil)))
      (z_seq (z_for (vs := [6]) (fun _ => (b_upI fun _ => (i_ran1 (a_cons (a_op pst_rv rok_I0 a_int (a_call (a_cons a_var (a_cons a_int a_nil)))) a_nil)))) (fun _ => (g_name (by decide)))
      (z_seq (z_set fun _ => (b_up fun _ => (a_op pst_pk rok_ix (a_pk (a_fz (a_lst (a_cons (a_tup (a_cons a_str a_nil)) (a_cons (a_tup (a_cons a_str (a_cons a_str a_nil))) (a_cons (a_tup (a_cons a_str (a_cons a_str a_nil))) (a_cons (a_tup (a_cons a_str (a_cons a_str (a_cons a_str a_nil)))) a_nil))))))) (a_call (a_cons a_var (a_cons a_int a_nil))))))
      (z_app fun _ => (b_up fun _ => (a_tup (a_cons (a_op pst_rv rok_ixS a_str a_var) (a_cons (a_op pst_pk rok_ix (a_pk (a_op pst_pk rok_ix (a_pk a_var) (a_call (a_cons a_var (a_cons (a_b1 u_len (a_pk a_var)) a_nil))))) a_int) (a_cons a_var a_nil))))))))
      (z_seq (z_set fun _ => (b_up fun _ => a_var))
      (z_cut (z_if (fun _ => (b_upT fun _ => (a_test (a_op pst_rv rok_eq (a_call (a_cons a_var (a_cons a_int a_nil))) a_int)))) (z_seq (z_set fun _ => (b_up fun _ => (a_tup (a_cons (a_op pst_pk rok_ix (a_pk a_var) a_int) (a_cons (a_op pst_pk rok_ix (a_pk a_var) a_int) (a_cons (a_fz (a_slL (a_pk (a_op pst_pk rok_ix (a_pk a_var) a_int)) ao_none (ao_some a_int))) a_nil))))))
      (z_set fun _ => (b_up fun _ => (a_fz (a_lst (a_cons (a_tup (a_cons (a_make (a_cons a_str (a_cons (a_make (a_cons (a_op pst_pk rok_ix (a_pk a_var) a_int) (a_cons (a_op pst_pk rok_ix (a_pk a_var) a_int) (a_cons (a_op pst_pk rok_ix (a_pk a_var) a_int) a_nil)))) (a_cons (a_fz (a_lc (vs := [19, 20]) (i_list a_var) (g_tup (g_cons (g_name (by decide)) (g_cons (g_name (by decide)) g_nil tot_name) tot_name)) a_yes (a_make (a_cons a_var (a_cons a_var a_nil))))) a_nil)))) (a_cons a_bl (a_cons a_var a_nil)))) a_nil)))))) z_next)
      (z_seq (z_set fun _ => (b_up fun _ => (a_call (a_cons a_var (a_cons a_int a_nil)))))
      (z_seq (z_setO fun _ => (b_upF fun _ => (a_lst a_nil)))
      (z_seq (z_set fun _ => (b_up fun _ => a_non))
      (z_fz (i := 5) (z_seq (z_for (vs := [12]) (fun _ => (b_upI fun _ => (i_list a_var))) (fun _ => (g_name (by decide)))
      (z_seq (z_set fun _ => (b_up fun _ => (a_call (a_cons a_var (a_cons a_var (a_cons a_var (a_cons a_var (a_cons a_var a_nil))))))))
      (z_cut (z_if (fun _ => (b_upT fun _ => (a_and (a_tb (a_isT (by decide) a_var)) (a_test (a_op pst_rv rok_isN a_var a_non))))) (z_set fun _ => (b_up fun _ => a_var)) z_next)
      (z_app fun _ => (b_up fun _ => a_var)))))
      (z_seq (z_set fun _ => (b_up fun _ => (a_make (a_cons a_var (a_cons (a_fz (a_lst a_nil)) a_nil)))))
      (z_seq (z_set fun _ => (b_up fun _ => (a_fz (a_lc (vs := [19, 20]) (i_list a_var) (g_tup (g_cons (g_name (by decide)) (g_cons (g_name (by decide)) g_nil tot_name) tot_name)) a_yes (a_make (a_cons a_var (a_cons a_var a_nil)))))))
      (z_cut (z_try1 (i := 17) XK_law (fun _ => (z_set fun _ => (b_callX (b_upA fun _ => (a_cons (a_make (a_cons (a_op pst_pk rok_ix (a_pk a_var) a_int) (a_cons (a_op pst_pk rok_ix (a_pk a_var) a_int) (a_cons (a_op pst_pk rok_ix (a_pk a_var) a_int) a_nil)))) (a_cons a_var (a_cons a_var (a_cons (a_fz (a_lc (vs := [21]) (i_list a_var) (g_name (by decide)) a_yes (a_op pst_pk rok_ix (a_pk a_var) a_int))) (a_cons a_var a_nil)))))))))
      (fun a dd => (z_seq (z_if (fun _ => (b_or (b_tb (b_isXT XE (.cons (.cons (.cons (.cons (.cons ClsA.nil))))) (Nat.le_of_ble_eq_true rfl) (.cons (.own _) (.cons (.own _) (.cons (.own _) (.cons (.own _) (.cons (.own _) .nil))))) IX_BadGroup_BadOpening_BadRequest_BadText_BadTurn)) (b_not (b_tb (b_isX XE (.own _) IX_BadQuestion))))) (z_ret fun _ => (b_up fun _ => a_bl)) z_next)
      (z_ret fun _ => (b_andV (b_up fun _ => (a_op pst_rv rok_notN a_var a_non)) (b_call (b_cons (b_what (kk := 12) rfl) (b_cons (b_up fun _ => a_var) b_nil))))))))
      (z_seq (z_if (fun _ => (b_upT fun _ => (a_or (a_test (a_op pst_rv rok_notN a_var a_non)) (a_not (a_tb (a_call (a_cons (a_fld T9.cl T9.n_rows (c := 9) (i := 3) rfl a_var) (a_cons (a_b1 u_tupOf a_peek) a_nil)))))))) (z_ret fun _ => (b_up fun _ => a_bl)) z_next)
      (z_seq (z_if (fun _ => (b_upT fun _ => (a_not (a_tb (a_call (a_cons (a_fz (a_lst (a_cons (a_op pst_rv rok_eqO (a_fld T9.cl T9.n_group (c := 9) (i := 0) rfl a_var) (a_make (a_cons (a_op pst_pk rok_ix (a_pk a_var) a_int) (a_cons (a_op pst_pk rok_ix (a_pk a_var) a_int) (a_cons (a_op pst_pk rok_ix (a_pk a_var) a_int) a_nil))))) (a_cons (a_isT (by decide) (a_fld T9.cl T9.n_kinds (c := 9) (i := 1) rfl a_var)) a_nil)))) (a_cons (a_fz (a_lst (a_cons a_bl (a_cons a_bl a_nil)))) a_nil))))))) (z_ret fun _ => (b_up fun _ => a_bl)) z_next)
      (z_ret fun _ => (b_up fun _ => (a_andV (a_call (a_cons (a_op pst_rv rok_eqO (a_fld T9.cl T9.n_policy (c := 9) (i := 2) rfl a_var) a_var) (a_cons a_bl a_nil))) (a_call (a_cons (a_fz (a_lc (vs := [19]) (i_tup (a_fld T9.cl T9.n_kinds (c := 9) (i := 1) rfl a_var)) (g_name (by decide)) a_yes (a_fld T3.cl T3.n_name (c := 3) (i := 0) rfl a_var))) (a_cons (a_fz (a_lc (vs := [19, 20]) (i_list a_var) (g_tup (g_cons (g_name (by decide)) (g_cons (g_name (by decide)) g_nil tot_name) tot_name)) a_yes a_var)) a_nil))))))))))))))))))))))))) ?_
  refine zseqG fun N hN => ?_
  walk_at "wq"
  have fl : 0 < (tab.filter (okRow 6 11)).length := by decide
  refine ⟨6, 11, rfl, by omega, by omega, fl, fun p q bs gg => ?_⟩
  have gg : GG p q bs (2 + (4 : Int)) 11 := gg
  have ok := gg.okk
  have gb := gg.gb
  have p3 := gb.p3
  have pm := gb.pm
  have q3 := gb.q3
  have qm := gb.qm
  have lnb := gg.ln
  subst hN
  refine zseqG fun N hN => ?_
  walk_at "wq"
  refine ⟨rfl, fun ks kok => ?_⟩
  subst hN
  obtain ⟨U, hU⟩ : ∃ U : List Sl, U = List.replicate 20 Sl.u := ⟨_, rfl⟩
  have hSt : ∃ W : List Sl → Sto → Prop, ∀ env M, W env M ↔ ∃ ks : List Kd, env = [Sl.u, Sl.d .pool, Sl.d (lgD p q bs), Sl.d (.lst (ks.map kdT)), Sl.u, Sl.u, Sl.u, Sl.u, Sl.u, Sl.u, Sl.u, Sl.u, Sl.u, Sl.u, Sl.u, Sl.u, Sl.u, Sl.u, Sl.u, Sl.u, Sl.u, Sl.u, Sl.u, Sl.u] ∧ M = (fun _ => none) ∧ KsOk ks := ⟨_, fun _ _ => Iff.rfl⟩
  obtain ⟨W, hW⟩ := hSt
  refine ⟨W, ?_, ?_⟩
  · walk_at "wq"
    refine draw (by omega) (by omega) fun v _ _ => ?_
    walk_at "wq"
    have kl : ks.length ≤ 2 := by rcases ks_shape kok with ⟨_, e⟩ | ⟨_, _, e⟩ <;> rw [e] <;> exact Nat.le_of_ble_eq_true rfl
    refine twoD (fun _ => ?_) (fun _ => (hW _ _).mpr ⟨ks, rfl, rfl, kok⟩)
    refine ⟨by rw [List.length_map]; omega, ?_⟩
    refine lcA_mapL (g := fun k : Kd => kdT (k.1, k.2.map fun f => (f.1, if q < f.2 then q else f.2))) (fun k hk Q hQ => ?_) ?_
    · have k4 := (kok.fs k hk).1
      unfold kdT at hQ ⊢
      walk_at "dw"
      refine ⟨by rw [List.length_map]; omega, ?_⟩
      refine lcA_mapL (g := fun f : Fld => fmD (f.1, if q < f.2 then q else f.2)) (fun f hf Q2 hQ2 => ?_) ?_
      · unfold fmD lgD at *
        walk_at "dw"
        exact hQ2
      walk_at "dw"
      rw [List.map_map] at hQ
      exact hQ
    · refine (hW _ _).mpr ⟨ks.map fun k => (k.1, k.2.map fun f => (f.1, if q < f.2 then q else f.2)), by rw [List.map_map]; rfl, rfl, ?_⟩
      refine ⟨?_, fun k hk => ?_⟩
      · rw [List.map_map]
        exact kok.nm
      · obtain ⟨k', hk', rfl⟩ := List.mem_map.mp hk
        have := kok.fs k' hk'
        refine ⟨by rw [List.length_map]; exact this.1, fun f hf => ?_⟩
        obtain ⟨f', hf', rfl⟩ := List.mem_map.mp hf
        have h := this.2 f' hf'
        exact ⟨h.1, by have := h.2.1; show 1 ≤ if q < f'.2 then q else f'.2; split <;> omega, by have := h.2.2; show (if q < f'.2 then q else f'.2) ≤ 16; split <;> omega⟩
  clear kok ks
  intro env M w
  obtain ⟨ks, rfl, rfl, kok⟩ := (hW _ _).mp w
  clear w hW W
  have kl : ks.length ≤ 2 ∧ 0 < ks.length := by rcases ks_shape kok with ⟨_, e⟩ | ⟨_, _, e⟩ <;> rw [e] <;> exact ⟨Nat.le_of_ble_eq_true rfl, Nat.le_of_ble_eq_true rfl⟩
  refine zseqG fun N hN => ?_
  walk_at "wq"
  refine draw (by omega) (by omega) fun v v0 v1 => ?_
  obtain ⟨n, hn⟩ : ∃ n : Nat, 1 + v = n := ⟨(1 + v).toNat, by omega⟩
  walk_at "wq"
  rw [hn, show cutD [Dat.str "town", .str "state", .str "land"] none (some (n : Int)) = ((["town", "state", "land"] : List Str).take n).map Dat.str from (cut_to (b := n)).trans (List.map_take (f := Dat.str) (l := ["town", "state", "land"]) (i := n)).symm]
  have nd3 : ((["town", "state", "land"] : List Str).take n).Nodup := List.Nodup.sublist (List.take_sublist _ _) (by decide +kernel)
  have ln3 : ((["town", "state", "land"] : List Str).take n).length ≤ 3 := by rw [List.length_take]; exact Nat.min_le_right _ _
  generalize (["town", "state", "land"] : List Str).take n = nm3 at nd3 ln3 ⊢
  refine ⟨by rw [List.length_map]; omega, lcA_relL (fun (nm : Str) y => ∃ i : Iq, y = liD bs i ∧ IqOk nm p q i) (fun nm hnm Q hQ => ?_) fun ys pr => ?_⟩
  · walk_at "dw"
    exact ⟨p, q, bs, ks, nm, rfl, ok, by omega, by omega, kok, fun i io => hQ _ ⟨i, rfl, io⟩⟩
  obtain ⟨is, rfl, rfl, iok⟩ := iss_of pr
  rw [List.length_map] at ln3
  clear pr
  subst hN
  refine zseqG fun N hN => ?_
  walk_at "wq"
  subst hN
  refine zseqG fun N hN => ?_
  walk_at "wq"
  refine draw (by omega) (by omega) fun cv cv0 cv1 => ?_
  obtain ⟨cn, hcn⟩ : ∃ n : Nat, 1 + cv = n := ⟨(1 + cv).toNat, by omega⟩
  walk_at "wq"
  rw [hcn]
  refine ⟨by omega, by omega, ?_⟩
  rw [Int.toNat_natCast]
  have hSt : ∃ W : Nat → List Sl → Sto → Prop, ∀ i env M, W i env M ↔ ∃ (cs : List Cd) (t6 t7 : Sl), env = [Sl.u, Sl.d .pool, Sl.d (lgD p q bs), Sl.d (.lst (ks.map kdT)), Sl.d (.lst (is.map (liD bs))), Sl.o (cs.map cdD), t6, t7, Sl.u, Sl.u, Sl.u, Sl.u, Sl.u, Sl.u, Sl.u, Sl.u, Sl.u, Sl.u, Sl.u, Sl.u, Sl.u, Sl.u, Sl.u, Sl.u] ∧ M = (fun _ => none) ∧ cs.length = i ∧ ∀ c ∈ cs, CdOk c ∧ (∃ kf, (c.kn, kf) ∈ ks) ∧ c.is.length ≤ 3 := ⟨_, fun _ _ _ => Iff.rfl⟩
  obtain ⟨W, hW⟩ := hSt
  refine forB_ran W ((hW _ _ _).mpr ⟨[], _, _, rfl, rfl, rfl, fun _ h => nomatch h⟩) ?_ ?_
  · intro i env M hi w N2 hN2
    obtain ⟨cs, t6, t7, rfl, rfl, lc, co⟩ := (hW _ _ _).mp w
    clear w
    refine zseqG fun N3 hN3 => ?_
    walk_at "wq"
    refine draw (by omega) (by omega) fun d d0 d1 => ?_
    show oQ (atI (nmsL.map fun l => Dat.tup (l.map Dat.str)) d) _
    refine oa_any d0 (by exact d1) fun l hl => ?_
    subst hN3
    walk_at "wq"
    obtain ⟨ch, hch, sch⟩ := mow_at i (by omega)
    refine ⟨by rw [List.length_map]; omega, by decide +kernel, ch, hch, ?_⟩
    rw [List.length_map]
    refine draw (by omega) (by omega) fun e e0 e1 => ?_
    refine oa_any e0 e1 fun k hk => ?_
    obtain ⟨kn, kf⟩ := k
    unfold kdT
    walk_at "wq"
    have ln := nmsL_ok l hl
    refine hN2 _ _ ((hW _ _ _).mpr ⟨cs ++ [⟨⟨#[ch]⟩, kn, l⟩], _, _, by rw [List.map_append]; rfl, rfl, by rw [List.length_append, lc]; rfl, fun c hc => ?_⟩)
    rcases List.mem_append.mp hc with hc | hc
    · exact co c hc
    · obtain rfl := List.mem_singleton.mp hc
      exact ⟨⟨sch, (ks_name kok hk).2.1, ln.2⟩, ⟨kf, hk⟩, ln.1⟩
  intro env M w
  obtain ⟨cs, t6, t7, rfl, rfl, lc, co⟩ := (hW _ _ _).mp w
  clear w hW W
  show N _ _
  subst hN
  refine zseqG fun N hN => ?_
  walk_at "wq"
  subst hN
  have hSt : ∃ W : List Sl → Sto → Prop, ∀ env M, W env M ↔ ∃ (bs' : List Int) (is : List Iq), env = [Sl.u, Sl.d .pool, Sl.d (lgD p q bs), Sl.d (.lst (ks.map kdT)), Sl.d (.lst (is.map (liD bs'))), Sl.o (cs.map cdD), t6, t7, Sl.d (lgD p q bs'), Sl.u, Sl.u, Sl.u, Sl.u, Sl.u, Sl.u, Sl.u, Sl.u, Sl.u, Sl.u, Sl.u, Sl.u, Sl.u, Sl.u, Sl.u] ∧ M = (fun _ => none) ∧ GOk p q bs' ∧ is.length ≤ 3 ∧ (is.map (·.n)).Nodup ∧ ∀ i ∈ is, IqOk i.n p q i := ⟨_, fun _ _ => Iff.rfl⟩
  obtain ⟨W, hW⟩ := hSt
  refine ⟨W, ?_, ?_⟩
  · walk_at "wq"
    refine draw (by omega) (by omega) fun e e0 e1 => ?_
    walk_at "wq"
    refine twoD (fun _ => ?_) (fun _ => (hW _ _).mpr ⟨bs, is, rfl, rfl, ok, ln3, nd3, iok⟩)
    refine zseqG fun N2 hN2 => ?_
    unfold lgD
    walk_at "wq"
    rw [show cutD (bs.map Dat.int) none (some 4) = (bs.take 4).map Dat.int from (cut_to (b := 4)).trans (List.map_take).symm]
    have g4 := ok.take4 (by omega)
    subst hN2
    walk_at "wq"
    refine ⟨p, q, bs.take 4, rfl, g4, ?_⟩
    refine ⟨by rw [List.length_map]; omega, ?_⟩
    refine lcA_mapL (g := kdP) (fun k hk Q hQ => ?_) ?_
    · obtain ⟨k4, _⟩ := kok.fs k hk
      unfold kdT
      walk_at "dw"
      exact ⟨true, k.1, k.2, rfl, by omega, hQ⟩
    refine ⟨.str "town", _, ks.map kdP, rfl, ?_⟩
    refine (hW _ _).mpr ⟨bs.take 4, [⟨"town", p, q, bs.take 4, ks, [], .lst []⟩], ?_, rfl, g4, Nat.le_of_ble_eq_true rfl, List.nodup_cons.mpr ⟨(fun z => nomatch z), List.nodup_nil⟩, fun i hi => ?_⟩
    · rw [show liD (bs.take 4) = liD (bs.take 4) from rfl, List.map_cons, List.map_nil]
      unfold liD
      rw [decide_eq_true (rfl : bs.take 4 = bs.take 4)]
      rfl
    · obtain rfl := List.mem_singleton.mp hi
      exact ⟨rfl, rfl, rfl, Nat.zero_le _, fun k hk => kd_ok kok hk, fun _ h => nomatch h⟩
  clear iok nd3 ln3 is
  intro env M w
  obtain ⟨bs', is, rfl, rfl, ok', ln3, nd3, iok⟩ := (hW _ _).mp w
  clear w hW W
  refine zseqG fun N hN => ?_
  walk_at "wq"
  refine draw (by omega) (by omega) fun day _ _ => ?_
  subst hN
  refine zseqG fun N hN => ?_
  walk_at "wq"
  subst hN
  refine zseqG fun N hN => ?_
  walk_at "wq"
  subst hN
  walk_at "wq"
  refine zseqG fun N hN => ?_
  walk_at "wq"
  obtain ⟨R, hR⟩ : ∃ R : Cd → Str ⊕ List Rw, R = fun c => cardR q p bs' is day (kfO ks c) c := ⟨_, rfl⟩
  refine forB_suf (f := cdD) (fun xs env M => M = (fun _ => none) ∧ ∃ (dn : List Cd) (t12 t13 : Sl), env = [Sl.u, Sl.d .pool, Sl.d (lgD p q bs), Sl.d (.lst (ks.map kdT)), Sl.d (.lst (is.map (liD bs'))), Sl.d (.lst (cs.map cdD)), t6, t7, Sl.d (lgD p q bs'), Sl.d (.int day), Sl.o ((dn.map R).map sumD), Sl.d (boD (badR (dn.map R))), t12, t13, Sl.u, Sl.u, Sl.u, Sl.u, Sl.u, Sl.u, Sl.u, Sl.u, Sl.u, Sl.u] ∧ dn ++ xs = cs) ?_ ?_ cs _ _ ⟨rfl, [], _, _, rfl, rfl⟩
  · rintro c xs env M ⟨rfl, dn, t12, t13, rfl, ecs⟩ N2 hN2
    have mc : c ∈ cs := by rw [← ecs]; exact List.mem_append.mpr (.inr List.mem_cons_self)
    obtain ⟨cok, ⟨kf, mk⟩, l3⟩ := co c mc
    have ld : dn.length < 100 := by
      have := congrArg List.length ecs
      rw [List.length_append, List.length_cons] at this
      omega
    refine zseqG fun N3 hN3 => ?_
    walk_at "wq"
    refine ⟨p, q, day, bs', bs', ks, c, is, rfl, ⟨kok, nd3, by omega, by omega, ⟨kf, mk⟩, iok⟩, ?_⟩
    rw [show cardR q p bs' is day (kfO ks c) c = R c by rw [hR]]
    subst hN3
    refine ⟨fun env M => env = [Sl.u, Sl.d .pool, Sl.d (lgD p q bs), Sl.d (.lst (ks.map kdT)), Sl.d (.lst (is.map (liD bs'))), Sl.d (.lst (cs.map cdD)), t6, t7, Sl.d (lgD p q bs'), Sl.d (.int day), Sl.o ((dn.map R).map sumD), Sl.d (boD (badR ((dn ++ [c]).map R))), Sl.d (cdD c), Sl.d (sumD (R c)), Sl.u, Sl.u, Sl.u, Sl.u, Sl.u, Sl.u, Sl.u, Sl.u, Sl.u, Sl.u] ∧ M = (fun _ => none), ?_, ?_⟩
    · rw [List.map_append, List.map_cons, List.map_nil, badR_snoc]
      cases hb : badR (dn.map R) with
      | none =>
        cases hr : R c with
        | inl e =>
          unfold sumD boD
          walk_at "wq"
          refine ⟨?_, ?_⟩ <;> first | trivial | rfl
        | inr l =>
          unfold sumD boD
          walk_at "wq"
          refine ⟨?_, ?_⟩ <;> first | trivial | rfl
      | some b =>
        cases hr : R c with
        | inl e =>
          unfold sumD boD
          walk_at "wq"
          refine ⟨?_, ?_⟩ <;> first | trivial | rfl
        | inr l =>
          unfold sumD boD
          walk_at "wq"
          refine ⟨?_, ?_⟩ <;> first | trivial | rfl
    · rintro env M ⟨rfl, rfl⟩
      walk_at "wq"
      refine ⟨by rw [List.length_map, List.length_map]; omega, ?_⟩
      refine hN2 _ _ ⟨rfl, dn ++ [c], _, _, by rw [List.map_append, List.map_append (f := sumD)]; rfl, by rw [List.append_assoc]; exact ecs⟩
  rintro env M ⟨rfl, dn, t12, t13, rfl, ecs⟩
  obtain rfl : dn = cs := by rw [List.append_nil] at ecs; exact ecs
  have eC : dn.map R = cardsR p q bs' ks is day dn := by rw [hR]; rfl
  rw [eC]
  clear hR eC R ecs
  show N _ _
  subst hN
  refine zseqG fun N hN => ?_
  walk_at "wq"
  refine ⟨dn, rfl, by omega, ?_⟩
  subst hN
  refine zseqG fun N hN => ?_
  walk_at "wq"
  refine ⟨by rw [List.length_map]; omega, ?_⟩
  refine lcA_mapL (g := kdP) (fun k hk Q hQ => ?_) ?_
  · obtain ⟨k4, _⟩ := kok.fs k hk
    unfold kdT
    walk_at "dw"
    exact ⟨true, k.1, k.2, rfl, by omega, hQ⟩
  subst hN
  have e3 : ∀ i ∈ is, i.rows.length ≤ 1000 ∧ ∀ k ∈ i.ks, KdOk k.1 k.2 := fun i hi => ⟨by have := (iok i hi).lr; omega, (iok i hi).ko⟩
  have e4 : ∀ c ∈ dn, (∃ kf, (c.kn, kf) ∈ ks) ∧ c.is.length ≤ 100 ∧ ((c.is.filterMap (fI is)).map (rwI c.kn day)).flatten.length ≤ 1000 := fun c hc => by
    obtain ⟨_, h2, h3⟩ := co c hc
    refine ⟨h2, by omega, ?_⟩
    have h4 := flat_len (m := 5) (xs := (c.is.filterMap (fI is)).map (rwI c.kn day)) fun x hx => by
      obtain ⟨i, hi, rfl⟩ := List.mem_map.mp hx
      obtain ⟨nm, _, hf⟩ := List.mem_filterMap.mp hi
      have l5 := (iok i (fI_mem hf).1).lr
      unfold rwI
      rw [List.length_map]
      have h1 := List.length_filter_le (fun x : BRow × Nat => decide (x.1.kn = c.kn) && Cnt x.1 day) i.rows.zipIdx
      rw [List.length_zipIdx] at h1
      omega
    rw [List.length_map] at h4
    have h5 := List.length_filterMap_le (fI is) c.is
    omega
  refine ⟨fun env M => badR (cardsR p q bs' ks is day dn) = none ∧ M = (fun _ => none) ∧ env = [Sl.u, Sl.d .pool, Sl.d (lgD p q bs), Sl.d (.lst (ks.map kdT)), Sl.d (.lst (is.map (liD bs'))), Sl.d (.lst (dn.map cdD)), t6, t7, Sl.d (lgD p q bs'), Sl.d (.int day), Sl.o ((cardsR p q bs' ks is day dn).map sumD), Sl.d .non, t12, t13, Sl.d (poO dn), Sl.d (.lst (ks.map kdP)), Sl.d (quO (grpD p q bs') (.tup (ks.map kdP)) (poO dn) (goodR (cardsR p q bs' ks is day dn))), Sl.u, Sl.u, Sl.u, Sl.u, Sl.u, Sl.u, Sl.u], ?_, ?_⟩
  · unfold zTry lgD
    walk_at "wq"
    refine ⟨p, q, bs', rfl, ok', ?_⟩
    refine ⟨by rw [List.length_map]; omega, ?_⟩
    refine lcA_mapL (g := iqD) (fun i hi Q hQ => ?_) ?_
    · unfold liD
      walk_at "dw"
      exact hQ
    refine ⟨p, q, day, bs', ks, dn, is, rfl, ⟨kok, by omega, by omega, e3, e4⟩, fun e he => ?_, fun hn => ?_⟩
    · rw [he]
      unfold zTryX
      refine ⟨by simp, fun a dd ha hdd => ?_⟩
      refine zseqG fun N hN => ?_
      walk_at "wq"
      simp only [bIs]
      walk_at "wq"
      simp only [xQ]
      refine ⟨trivial, trivial, ?_⟩
      subst hN
      walk_at "wq"
      unfold boD
      walk_at "wq"
      simp only [bWhat]
      walk_at "wq"
      simp only [xQ]
      refine ⟨trivial, ?_⟩
      refine ⟨.str e, .str e, rfl, rfl, trivial, fun b hb => by rw [hb.mpr rfl]⟩
    · walk_at "wq"
      rw [hn]
      first | trivial | rfl | exact ⟨rfl, trivial⟩ | exact ⟨trivial, rfl⟩
  rintro env M ⟨hn, rfl, rfl⟩
  obtain ⟨RR, hRR⟩ : ∃ RR, RR = cardsR p q bs' ks is day dn := ⟨_, rfl⟩
  rw [← hRR] at hn ⊢
  refine zseqG fun N hN => ?_
  unfold quO
  walk_at "wq"
  have l100 : ∀ r ∈ goodR RR, r.length ≤ 8 := fun r hr => by
    have := good_mem hr
    rw [hRR] at this
    obtain ⟨c, _, hc⟩ := List.mem_map.mp this
    exact card_le hc
  have lR : (goodR RR).length ≤ 3 := by
    have := good_len (rs := RR)
    have h2 : RR.length = dn.length := by rw [hRR]; exact List.length_map _
    omega
  rw [good_sum hn]
  clear hRR
  generalize goodR RR = GR at l100 lR ⊢
  refine same_ok (plAll_map fun r _ => plAll_map fun x _ => rfl) (okS_tup (by rw [List.length_map]; omega) (okS_map fun r hr => okS_tup (by rw [List.length_map]; have := l100 r hr; omega) (okS_map fun x _ => okS_rw))) rfl ?_
  walk_at "wq"
  show N _ _
  subst hN
  refine zseqG fun N hN => ?_
  unfold lgD
  walk_at "wq"
  refine ⟨p, q, bs', rfl, ok', ?_⟩
  refine eq_grp fun b hb => ?_
  obtain rfl : b = true := hb.mpr ⟨rfl, rfl, rfl⟩
  refine same_ok rfl (okS_lst (Nat.le_of_ble_eq_true rfl) (fun d hd => ?_)) rfl ?_
  · simp only [List.mem_cons, List.mem_nil_iff, or_false] at hd
    rcases hd with rfl | rfl <;> trivial
  walk_at "wq"
  show N _ _
  subst hN
  walk_at "wq"
  refine eq_pol (fun c hc => (co c hc).1) ?_
  refine same_end rfl (okS_bl _ _) rfl ?_
  walk_at "wq"
  refine ⟨by rw [List.length_map]; omega, ?_⟩
  refine lcA_mapL (g := fun k : Kd => Dat.str k.1) (fun k hk Q hQ => ?_) ?_
  · unfold kdP kdO
    walk_at "dw"
    exact hQ
  refine ⟨by rw [List.length_map]; omega, ?_⟩
  refine lcA_mapL (g := fun k : Kd => Dat.str k.1) (fun k hk Q hQ => ?_) ?_
  · unfold kdT
    walk_at "dw"
    exact hQ
  refine same_end (plAll_map fun _ _ => rfl) (okS_lst (by rw [List.length_map]; omega) (okS_map fun _ _ => okS_str _ _)) rfl ?_
  rfl
end
theorem cal_weak {P : Program} {w : World} {K : PySem.W.Frag} {mg : Str → Option Value} {base : Heap} {k : Nat} {x : Str} {sp sp' : Sp} {dvs : List V} (h : ∀ vs H Q E, sp' vs H Q E → sp vs H Q E) (C : C8.Cal P w K mg base k x sp dvs) : C8.Cal P w K mg base k x sp' dvs := by
  obtain ⟨f, fd, ps, ds, F, a, b, c, d⟩ := C.ex
  exact ⟨⟨f, fd, ps, ds, fn_weak h F, a, b, c, d⟩⟩
/-- an error of the class at S is what «except D» names -/
theorem exm_of {K : PySem.W.Frag} {S D : Addr} (h1 : PySem.W.subIn K (.ref D) (.type "BaseException") = some true) (h2 : PySem.W.isClsIn K D = true) (h3 : PySem.W.typeIn K (.ref D) = some (.type "type")) (h4 : PySem.W.subIn K (.ref S) (.ref D) = some true) :
    PySem.W.exmOne K (.ref S) (.ref D) = some true := by
  have e1 : (PySem.W.subIn K (.ref D) (.type "BaseException") == some true) = true := by rw [h1] <;> rfl
  have h2' : (PySem.W.clsIn K D).isSome = true := h2
  have e2 : ((PySem.W.clsIn K D).isSome && PySem.W.typeIn K (.ref D) == some (.type "type")) = true := by rw [h2', h3] <;> rfl
  show (if (PySem.W.subIn K (.ref D) (.type "BaseException") == some true) = true then (if ((PySem.W.clsIn K D).isSome && PySem.W.typeIn K (.ref D) == some (.type "type")) = true then PySem.W.subIn K (.ref S) (.ref D) else none) else none) = some true
  rw [if_pos e1, if_pos e2]
  exact h4
theorem beq_ref {a b : Addr} : (Value.ref a == Value.ref b) = decide (a = b) := by
  by_cases h : a = b
  · subst h
    rw [decide_eq_true rfl]
    exact beq_self_eq_true (Value.ref a)
  · rw [decide_eq_false h]
    exact beq_eq_false_iff_ne.mpr fun z => h (by cases z; rfl)
theorem kit_self {K : PySem.W.Frag} {S : Addr} : PySem.W.kitOne K (.ref S) (.ref S) = some true := by
  unfold PySem.W.kitOne
  rw [beq_ref, decide_eq_true rfl]
  rfl
theorem kit_no {K : PySem.W.Frag} {S D : Addr} (h1 : PySem.W.isClsIn K D = true) (h2 : PySem.W.typeIn K (.ref D) = some (.type "type")) (h3 : PySem.W.subIn K (.ref S) (.ref D) = some false) (h4 : PySem.W.subIn K (.ref S) (.ref S) = some true) :
    PySem.W.kitOne K (.ref S) (.ref D) = some false := by
  have ne : ¬ S = D := fun z => by
    subst z
    rw [h3] at h4
    cases h4
  have h1' : (PySem.W.clsIn K D).isSome = true := h1
  have e2 : ((PySem.W.clsIn K D).isSome && PySem.W.typeIn K (.ref D) == some (.type "type")) = true := by rw [h1', h2] <;> rfl
  unfold PySem.W.kitOne PySem.W.kitCls
  rw [beq_ref, decide_eq_false ne, if_neg Bool.false_ne_true]
  show (if ((PySem.W.clsIn K D).isSome && PySem.W.typeIn K (.ref D) == some (.type "type")) = true then PySem.W.subIn K (.ref S) (.ref D) else none) = some false
  rw [if_pos e2]
  exact h3
theorem fn_x0 {P : Program} {w : World} {K : PySem.W.Frag} {mg : Str → Option Value} {base : Heap} {k : Nat} {f : Addr} {fd : FuncData} {ps : List Str} {sp sp0 : Sp} (h : FnOk P w K mg base (L2.CX P w) k f fd ps sp) (c : ∀ vs H Q E, sp0 vs H Q E → sp vs H Q (fun _ _ _ => False)) : FnOk P w K mg base CX0 k f fd ps sp0 := by
  refine ⟨fun vs H Q E q => h.len vs H Q _ (c vs H Q E q), fun A outer s H cl us vs Q E rm e0 hb rv q => ?_⟩
  refine codeAny_mono (h.run A outer s H cl us vs Q _ rm e0 hb rv (c vs H Q E q)) fun r s' hq => ?_
  cases r with
  | error e =>
    obtain ⟨_, _, _, _, _, _, _, _, _, _, _, _, z⟩ := hq
    exact z.elim
  | ok fl =>
    cases fl with
    | ret u => exact hq
    | next => exact hq
    | brk => exact hq
    | cont => exact hq
abbrev s_kept_policy : Stmt := top 53
def caZ (C0 C1 C2 C3 C4 C5 CPl CQn CR CQ CU : Addr) : Nat → Addr := fun k => if k = 1 then C1 else if k = 2 then C2 else if k = 3 then C3 else if k = 4 then C4 else if k = 5 then C5 else if k = 8 then CPl else if k = 9 then CQn else if k = 11 then CR else if k = 12 then CQ else if k = 13 then CU else C0
theorem kit_cons {K : PySem.W.Frag} {t c : Value} {r : List Value} (h : PySem.W.kitOne K t c = some false) (k : PySem.W.kitAny K t r = some false) : PySem.W.kitAny K t (c :: r) = some false := by
  unfold PySem.W.kitAny
  rw [h]
  exact k
theorem fn_ty {K : PySem.W.Frag} {f : Addr} (h : PySem.W.isFn K (.ref f) = true) : PySem.W.typeIn K (.ref f) = some (.type "function") := by
  unfold PySem.W.isFn at h
  exact eq_of_beq h
abbrev s_BadRequest___init__ : Stmt := inClass (top 18) 0
theorem sc_BadRequest___init__ : FnScope ["self", "what"] ["self", "what"] (defScope s_BadRequest___init__) := ⟨rfl, rfl, rfl, by decide +kernel, rfl, by decide +kernel, by decide +kernel⟩
theorem ok_x_BadRequest {P : Program} {w : World} {K : PySem.W.Frag} {mg : Str → Option Value} {base : Heap} {C f : Addr} {fd : FuncData} (F : Fun K "__init__" "BadRequest.__init__" s_BadRequest___init__ f fd) (T : OexC K C) (hno : PySem.W.findIn K (.ref C) "what" = some none) : FnOk P w K mg base CX0 1 f fd ["self", "what"] (spXI K C "what") := by
  refine F.ok sc_BadRequest___init__ (fun vs H Q E h => by obtain ⟨a, v, rfl, _⟩ := h; rfl) (fun cdv A outer s H vs Q E hr h => ⟨_, pss_one (ps_ost (pv 0) (pv 1)), ?_⟩)
  obtain ⟨a, v, rfl, ha, q⟩ := h
  exact ⟨_, rfl, _, rfl, a, C, rfl, T, hno, .inl ⟨ha, fun dx h1 h2 => q dx h1 h2⟩⟩
abbrev s_BadTurn___init__ : Stmt := inClass (top 20) 0
theorem sc_BadTurn___init__ : FnScope ["self", "what"] ["self", "what"] (defScope s_BadTurn___init__) := ⟨rfl, rfl, rfl, by decide +kernel, rfl, by decide +kernel, by decide +kernel⟩
theorem ok_x_BadTurn {P : Program} {w : World} {K : PySem.W.Frag} {mg : Str → Option Value} {base : Heap} {C f : Addr} {fd : FuncData} (F : Fun K "__init__" "BadTurn.__init__" s_BadTurn___init__ f fd) (T : OexC K C) (hno : PySem.W.findIn K (.ref C) "what" = some none) : FnOk P w K mg base CX0 1 f fd ["self", "what"] (spXI K C "what") := by
  refine F.ok sc_BadTurn___init__ (fun vs H Q E h => by obtain ⟨a, v, rfl, _⟩ := h; rfl) (fun cdv A outer s H vs Q E hr h => ⟨_, pss_one (ps_ost (pv 0) (pv 1)), ?_⟩)
  obtain ⟨a, v, rfl, ha, q⟩ := h
  exact ⟨_, rfl, _, rfl, a, C, rfl, T, hno, .inl ⟨ha, fun dx h1 h2 => q dx h1 h2⟩⟩
abbrev s_BadQuestion___init__ : Stmt := inClass (top 19) 0
theorem sc_BadQuestion___init__ : FnScope ["self", "what"] ["self", "what"] (defScope s_BadQuestion___init__) := ⟨rfl, rfl, rfl, by decide +kernel, rfl, by decide +kernel, by decide +kernel⟩
theorem ok_x_BadQuestion {P : Program} {w : World} {K : PySem.W.Frag} {mg : Str → Option Value} {base : Heap} {C f : Addr} {fd : FuncData} (F : Fun K "__init__" "BadQuestion.__init__" s_BadQuestion___init__ f fd) (T : OexC K C) (hno : PySem.W.findIn K (.ref C) "what" = some none) : FnOk P w K mg base CX0 1 f fd ["self", "what"] (spXI K C "what") := by
  refine F.ok sc_BadQuestion___init__ (fun vs H Q E h => by obtain ⟨a, v, rfl, _⟩ := h; rfl) (fun cdv A outer s H vs Q E hr h => ⟨_, pss_one (ps_ost (pv 0) (pv 1)), ?_⟩)
  obtain ⟨a, v, rfl, ha, q⟩ := h
  exact ⟨_, rfl, _, rfl, a, C, rfl, T, hno, .inl ⟨ha, fun dx h1 h2 => q dx h1 h2⟩⟩
theorem no_fn {P : Program} {w : World} {K : PySem.W.Frag} {mg : Str → Option Value} {base : Heap} {ca : Nat → Addr} {k : Nat} {f : Addr} {fd : FuncData} {ps : List Str} : FnOk P w K mg base CX0 k f fd ps (toSp K ca aspNo) :=
  ⟨fun _ _ _ _ ⟨_, _, _, _, _, _, h, _⟩ => h.elim, fun _ _ _ _ _ _ _ _ _ _ _ _ _ ⟨_, _, _, _, _, _, h, _⟩ => h.elim⟩
theorem uq_kd : UQ (objS 3 aspKdEq) := uq_obj fun ds es P ⟨n, m, fs, gs, e, h1, h2, _⟩ => by
  rw [List.cons.injEq, List.cons.injEq] at e
  unfold kdO at e
  rw [Dat.obj.injEq, Dat.obj.injEq] at e
  rw [e.1.2, e.2.1.2]
  have a1 := (okE_fm h1).1
  have a2 := (okE_fm h2).1
  have s1 := h1.sn
  have s2 := h2.sn
  constructor
  · show (PyData.strOk n && (layD (.tup (fs.map fmD)) && true)) = true
    rw [s1, a1]
    rfl
  · show (PyData.strOk m && (layD (.tup (gs.map fmD)) && true)) = true
    rw [s2, a2]
    rfl
set_option maxHeartbeats 0 in
theorem all_mk {l : PySem.W.OpenLaw} {w : World} {K : PySem.W.Frag} {h : Heap} {mg : Str → Option Value} {fa f0 f1 f2 f3 f4 f5 f6 f7 f8 f9 f10 f11 f12 f13 f14 f15 f16 f17 f18 f19 f20 f21 f22 f23 f24 f25 f26 f27 f28 f29 f30 f31 f32 f33 f34 f35 f36 f37 f38 f39 f40 f41 f42 f43 f44 f45 f46 f47 f48 f49 f50 f51 f52 f53 f54 f55 f56 : Addr} {C0 C1 C2 C3 C4 C5 CPl CQn CR CU CQ CV CG CO CTx : Addr} {tS tL tF tM tA tC tG tR tQ1 tQ2 : Tok} {Rnm Rq : Str} {RN : Addr} {Rbs Rbm Rsub : List Value} {Rsn : List Str} {Rab : Bool} {Rcol : Option Bool} {Rdd : Option Addr} {Rk0 Rk1 Rk2 Rk3 Rk5 : Option Value} {Qnm Qq : Str} {QN : Addr} {Qbs Qbm Qsub : List Value} {Qsn : List Str} {Qab : Bool} {Qcol : Option Bool} {Qdd : Option Addr} {Qk0 Qk1 Qk2 Qk3 Qk5 : Option Value} {Unm Uq : Str} {UN : Addr} {Ubs Ubm Usub : List Value} {Usn : List Str} {Uab : Bool} {Ucol : Option Bool} {Udd : Option Addr} {Uk0 Uk1 Uk2 Uk3 Uk5 : Option Value} (X : K.In h) (G : h.Ns mainGlobals mg) (hfa : mg "law" = some (.ref fa))
    {od0 an0 od1 an1 od2 an2 od3 an3 od4 an4 od5 an5 od6 an6 od7 an7 od8 an8 od9 an9 od10 an10 od11 an11 od12 an12 od13 an13 od14 an14 od15 an15 od16 an16 od17 an17 od18 an18 od19 an19 od20 an20 od21 an21 od22 an22 od23 an23 od24 an24 od25 an25 od26 an26 od27 an27 od28 an28 od29 an29 od30 an30 od31 an31 od32 an32 od33 an33 od34 an34 od35 an35 od36 an36 od37 an37 od38 an38 od39 an39 od40 an40 od41 an41 od42 an42 od43 an43 od44 an44 od45 an45 od46 an46 od47 an47 od48 an48 od49 an49 od50 an50 od51 an51 od52 an52 od53 an53 od54 an54 od55 an55 od56 an56 : Option Addr} {sl0 sl1 sl2 sl3 sl4 sl5 sl6 sl7 sl8 sl9 sl10 sl11 sl12 sl13 sl14 sl15 sl16 sl17 sl18 sl19 sl20 sl21 sl22 sl23 sl24 sl25 sl26 sl27 sl28 sl29 sl30 sl31 sl32 sl33 sl34 sl35 sl36 sl37 sl38 sl39 sl40 sl41 sl42 sl43 sl44 sl45 sl46 sl47 sl48 sl49 sl50 sl51 sl52 sl53 sl54 sl55 sl56 : Array (Option Value)} {oc0 kV0 dc0 pm0 cd0 ct0 oc1 kV1 dc1 pm1 cd1 ct1 oc2 kV2 dc2 pm2 cd2 ct2 oc3 kV3 dc3 pm3 cd3 ct3 oc4 kV4 dc4 pm4 cd4 ct4 oc5 kV5 dc5 pm5 cd5 ct5 oc6 kV6 dc6 pm6 cd6 ct6 oc7 kV7 dc7 pm7 cd7 ct7 oc8 kV8 dc8 pm8 cd8 ct8 oc9 kV9 dc9 pm9 cd9 ct9 oc10 kV10 dc10 pm10 cd10 ct10 oc11 kV11 dc11 pm11 cd11 ct11 oc12 kV12 dc12 pm12 cd12 ct12 oc13 kV13 dc13 pm13 cd13 ct13 oc14 kV14 dc14 pm14 cd14 ct14 oc15 kV15 dc15 pm15 cd15 ct15 oc16 kV16 dc16 pm16 cd16 ct16 oc17 kV17 dc17 pm17 cd17 ct17 oc18 kV18 dc18 pm18 cd18 ct18 oc19 kV19 dc19 pm19 cd19 ct19 oc20 kV20 dc20 pm20 cd20 ct20 oc21 kV21 dc21 pm21 cd21 ct21 oc22 kV22 dc22 pm22 cd22 ct22 oc23 kV23 dc23 pm23 cd23 ct23 oc24 kV24 dc24 pm24 cd24 ct24 oc25 kV25 dc25 pm25 cd25 ct25 oc26 kV26 dc26 pm26 cd26 ct26 oc27 kV27 dc27 pm27 cd27 ct27 oc28 kV28 dc28 pm28 cd28 ct28 oc29 kV29 dc29 pm29 cd29 ct29 oc30 kV30 dc30 pm30 cd30 ct30 oc31 kV31 dc31 pm31 cd31 ct31 oc32 kV32 dc32 pm32 cd32 ct32 oc33 kV33 dc33 pm33 cd33 ct33 oc34 kV34 dc34 pm34 cd34 ct34 oc35 kV35 dc35 pm35 cd35 ct35 oc36 kV36 dc36 pm36 cd36 ct36 oc37 kV37 dc37 pm37 cd37 ct37 oc38 kV38 dc38 pm38 cd38 ct38 oc39 kV39 dc39 pm39 cd39 ct39 oc40 kV40 dc40 pm40 cd40 ct40 oc41 kV41 dc41 pm41 cd41 ct41 oc42 kV42 dc42 pm42 cd42 ct42 oc43 kV43 dc43 pm43 cd43 ct43 oc44 kV44 dc44 pm44 cd44 ct44 oc45 kV45 dc45 pm45 cd45 ct45 oc46 kV46 dc46 pm46 cd46 ct46 oc47 kV47 dc47 pm47 cd47 ct47 oc48 kV48 dc48 pm48 cd48 ct48 oc49 kV49 dc49 pm49 cd49 ct49 oc50 kV50 dc50 pm50 cd50 ct50 oc51 kV51 dc51 pm51 cd51 ct51 oc52 kV52 dc52 pm52 cd52 ct52 oc53 kV53 dc53 pm53 cd53 ct53 oc54 kV54 dc54 pm54 cd54 ct54 oc55 kV55 dc55 pm55 cd55 ct55 oc56 kV56 dc56 pm56 cd56 ct56 : Value}
    (a_C0 : PySem.W.nsIn K mainGlobals "Group" = some (some (.ref C0)))
    (pg_C0 : PySem.W.plainGet K C0 Str.empty = true)
    (hd_C0 : PySem.W.hasDictIn K C0 = true)
    (po_C0 : PySem.W.plainOver K C0 = true)
    (sa_C0 : PySem.W.findIn K (.ref C0) "__setattr__" = some (some (.builtin "object.__setattr__")))
    (mk_C0 : PySem.W.makesIn K C0 = true)
    (kc_C0 : PySem.W.keepIn K (.ref C0) = true)
    (nC0p : PySem.W.findIn K (.ref C0) "p" = some none)
    (nC0q : PySem.W.findIn K (.ref C0) "q" = some none)
    (nC0bases : PySem.W.findIn K (.ref C0) "bases" = some none)
    (a_C1 : PySem.W.nsIn K mainGlobals "Statement" = some (some (.ref C1)))
    (pg_C1 : PySem.W.plainGet K C1 Str.empty = true)
    (hd_C1 : PySem.W.hasDictIn K C1 = true)
    (po_C1 : PySem.W.plainOver K C1 = true)
    (sa_C1 : PySem.W.findIn K (.ref C1) "__setattr__" = some (some (.builtin "object.__setattr__")))
    (mk_C1 : PySem.W.makesIn K C1 = true)
    (kc_C1 : PySem.W.keepIn K (.ref C1) = true)
    (nC1unknowns : PySem.W.findIn K (.ref C1) "unknowns" = some none)
    (nC1equations : PySem.W.findIn K (.ref C1) "equations" = some none)
    (a_C2 : PySem.W.nsIn K mainGlobals "Claim" = some (some (.ref C2)))
    (pg_C2 : PySem.W.plainGet K C2 Str.empty = true)
    (hd_C2 : PySem.W.hasDictIn K C2 = true)
    (po_C2 : PySem.W.plainOver K C2 = true)
    (sa_C2 : PySem.W.findIn K (.ref C2) "__setattr__" = some (some (.builtin "object.__setattr__")))
    (mk_C2 : PySem.W.makesIn K C2 = true)
    (kc_C2 : PySem.W.keepIn K (.ref C2) = true)
    (nC2statement : PySem.W.findIn K (.ref C2) "statement" = some none)
    (nC2choices : PySem.W.findIn K (.ref C2) "choices" = some none)
    (a_C3 : PySem.W.nsIn K mainGlobals "Kind" = some (some (.ref C3)))
    (pg_C3 : PySem.W.plainGet K C3 Str.empty = true)
    (hd_C3 : PySem.W.hasDictIn K C3 = true)
    (po_C3 : PySem.W.plainOver K C3 = true)
    (sa_C3 : PySem.W.findIn K (.ref C3) "__setattr__" = some (some (.builtin "object.__setattr__")))
    (mk_C3 : PySem.W.makesIn K C3 = true)
    (kc_C3 : PySem.W.keepIn K (.ref C3) = true)
    (nC3name : PySem.W.findIn K (.ref C3) "name" = some none)
    (nC3fields : PySem.W.findIn K (.ref C3) "fields" = some none)
    (a_C4 : PySem.W.nsIn K mainGlobals "Request" = some (some (.ref C4)))
    (pg_C4 : PySem.W.plainGet K C4 Str.empty = true)
    (hd_C4 : PySem.W.hasDictIn K C4 = true)
    (po_C4 : PySem.W.plainOver K C4 = true)
    (sa_C4 : PySem.W.findIn K (.ref C4) "__setattr__" = some (some (.builtin "object.__setattr__")))
    (mk_C4 : PySem.W.makesIn K C4 = true)
    (kc_C4 : PySem.W.keepIn K (.ref C4) = true)
    (nC4kind : PySem.W.findIn K (.ref C4) "kind" = some none)
    (nC4element : PySem.W.findIn K (.ref C4) "element" = some none)
    (nC4first : PySem.W.findIn K (.ref C4) "first" = some none)
    (nC4drawn : PySem.W.findIn K (.ref C4) "drawn" = some none)
    (nC4state : PySem.W.findIn K (.ref C4) "state" = some none)
    (a_C5 : PySem.W.nsIn K mainGlobals "Issuer" = some (some (.ref C5)))
    (pg_C5 : PySem.W.plainGet K C5 Str.empty = true)
    (hd_C5 : PySem.W.hasDictIn K C5 = true)
    (po_C5 : PySem.W.plainOver K C5 = true)
    (sa_C5 : PySem.W.findIn K (.ref C5) "__setattr__" = some (some (.builtin "object.__setattr__")))
    (mk_C5 : PySem.W.makesIn K C5 = true)
    (kc_C5 : PySem.W.keepIn K (.ref C5) = true)
    (nC5name : PySem.W.findIn K (.ref C5) "name" = some none)
    (nC5group : PySem.W.findIn K (.ref C5) "group" = some none)
    (nC5kinds : PySem.W.findIn K (.ref C5) "kinds" = some none)
    (nC5book : PySem.W.findIn K (.ref C5) "book" = some none)
    (nC5_requests : PySem.W.findIn K (.ref C5) "_requests" = some none)
    (a_CPl : PySem.W.nsIn K mainGlobals "Policy" = some (some (.ref CPl)))
    (pg_CPl : PySem.W.plainGet K CPl Str.empty = true)
    (hd_CPl : PySem.W.hasDictIn K CPl = true)
    (po_CPl : PySem.W.plainOver K CPl = true)
    (sa_CPl : PySem.W.findIn K (.ref CPl) "__setattr__" = some (some (.builtin "object.__setattr__")))
    (mk_CPl : PySem.W.makesIn K CPl = true)
    (kc_CPl : PySem.W.keepIn K (.ref CPl) = true)
    (nCPlcards : PySem.W.findIn K (.ref CPl) "cards" = some none)
    (nCPlconditions : PySem.W.findIn K (.ref CPl) "conditions" = some none)
    (a_CQn : PySem.W.nsIn K mainGlobals "Question" = some (some (.ref CQn)))
    (pg_CQn : PySem.W.plainGet K CQn Str.empty = true)
    (hd_CQn : PySem.W.hasDictIn K CQn = true)
    (po_CQn : PySem.W.plainOver K CQn = true)
    (sa_CQn : PySem.W.findIn K (.ref CQn) "__setattr__" = some (some (.builtin "object.__setattr__")))
    (mk_CQn : PySem.W.makesIn K CQn = true)
    (kc_CQn : PySem.W.keepIn K (.ref CQn) = true)
    (nCQngroup : PySem.W.findIn K (.ref CQn) "group" = some none)
    (nCQnkinds : PySem.W.findIn K (.ref CQn) "kinds" = some none)
    (nCQnpolicy : PySem.W.findIn K (.ref CQn) "policy" = some none)
    (nCQnrows : PySem.W.findIn K (.ref CQn) "rows" = some none)
    (ha3 : PySem.W.findIn K (.ref C3) "__class__" = some (some (.builtin "object.__class__")))
    (hm3 : PySem.W.mroIn K C3 (.type "object") = some true)
    (ha8 : PySem.W.findIn K (.ref CPl) "__class__" = some (some (.builtin "object.__class__")))
    (hm8 : PySem.W.mroIn K CPl (.type "object") = some true)
    (ha0 : PySem.W.findIn K (.ref C0) "__class__" = some (some (.builtin "object.__class__")))
    (hne0 : PySem.W.findIn K (.ref C0) "__ne__" = some (some (.builtin "object.__ne__")))
    (hm0 : PySem.W.mroIn K C0 (.type "object") = some true)
    (gS : PySem.W.nsIn K mainGlobals "SMALLEST_P" = some (some (.int 3 tS)))
    (gL : PySem.W.nsIn K mainGlobals "LARGEST_P" = some (some (.int 1000000 tL)))
    (gF : PySem.W.nsIn K mainGlobals "FEWEST_BASES" = some (some (.int 2 tF)))
    (gM : PySem.W.nsIn K mainGlobals "MOST_BASES" = some (some (.int 12 tM)))
    (gA : PySem.W.nsIn K mainGlobals "ASKED" = some (some (.str "asked" tA)))
    (gC : PySem.W.nsIn K mainGlobals "CHALLENGED" = some (some (.str "challenged" tC)))
    (gG : PySem.W.nsIn K mainGlobals "GRANTED" = some (some (.str "granted" tG)))
    (gR : PySem.W.nsIn K mainGlobals "REFUSED" = some (some (.str "refused" tR)))
    (gQ1 : PySem.W.nsIn K mainGlobals "MOST_ROWS" = some (some (.int 8 tQ1)))
    (gQ2 : PySem.W.nsIn K mainGlobals "FIRST_FIELD_BASE" = some (some (.int 2 tQ2)))
    (hn1 : PySem.W.specialIn K (.builtin "object.__class__") "__get__" = some (some (.builtin "getset_descriptor.__get__")))
    (ht1 : PySem.W.takesIn K (.builtin "object.__class__") = some true)
    (a_CR : PySem.W.nsIn K mainGlobals "BadRequest" = some (some (.ref CR)))
    (a_CU : PySem.W.nsIn K mainGlobals "BadTurn" = some (some (.ref CU)))
    (Rlk : K.lookup CR = some (excClassObj Rnm Rq CR RN Rbs Rbm true Rsn Rsub Rab Rcol Rdd Rk0 Rk1 Rk2 Rk3 Rk5 "ValueError.__new__"))
    (Rrf : PySem.HandSPX.refsVE Rbm = true)
    (Rsa : PySem.W.findIn K (.ref CR) "__setattr__" = some (some (.builtin "object.__setattr__")))
    (Rty : PySem.W.typeIn K (.ref CR) = some (.type "type"))
    (Rkc : PySem.W.keepIn K (.ref CR) = true)
    (Rwh : PySem.W.findIn K (.ref CR) "what" = some none)
    (Rbe : PySem.W.subIn K (.ref CR) (.type "BaseException") = some true)
    (Ulk : K.lookup CU = some (excClassObj Unm Uq CU UN Ubs Ubm true Usn Usub Uab Ucol Udd Uk0 Uk1 Uk2 Uk3 Uk5 "ValueError.__new__"))
    (Urf : PySem.HandSPX.refsVE Ubm = true)
    (Usa : PySem.W.findIn K (.ref CU) "__setattr__" = some (some (.builtin "object.__setattr__")))
    (Uty : PySem.W.typeIn K (.ref CU) = some (.type "type"))
    (Ukc : PySem.W.keepIn K (.ref CU) = true)
    (Uwh : PySem.W.findIn K (.ref CU) "what" = some none)
    (Ube : PySem.W.subIn K (.ref CU) (.type "BaseException") = some true)
    (a_CQ : PySem.W.nsIn K mainGlobals "BadQuestion" = some (some (.ref CQ)))
    (a_CV : PySem.W.nsIn K mainGlobals "VouchError" = some (some (.ref CV)))
    (a_CG : PySem.W.nsIn K mainGlobals "BadGroup" = some (some (.ref CG)))
    (a_CO : PySem.W.nsIn K mainGlobals "BadOpening" = some (some (.ref CO)))
    (a_CTx : PySem.W.nsIn K mainGlobals "BadText" = some (some (.ref CTx)))
    (Qlk : K.lookup CQ = some (excClassObj Qnm Qq CQ QN Qbs Qbm true Qsn Qsub Qab Qcol Qdd Qk0 Qk1 Qk2 Qk3 Qk5 "ValueError.__new__"))
    (Qrf : PySem.HandSPX.refsVE Qbm = true)
    (Qsa : PySem.W.findIn K (.ref CQ) "__setattr__" = some (some (.builtin "object.__setattr__")))
    (Qty : PySem.W.typeIn K (.ref CQ) = some (.type "type"))
    (Qkc : PySem.W.keepIn K (.ref CQ) = true)
    (Qwh : PySem.W.findIn K (.ref CQ) "what" = some none)
    (Qbe : PySem.W.subIn K (.ref CQ) (.type "BaseException") = some true)
    (Qga : PySem.W.findIn K (.ref CQ) "__getattribute__" = some (some (.builtin "BaseException.__getattribute__")))
    (Qgg : PySem.W.findIn K (.ref CQ) "__getattr__" = some none)
    (Qhd : PySem.W.hasDictIn K CQ = true)
    (Qha : PySem.W.findIn K (.ref CQ) "__class__" = some (some (.builtin "object.__class__")))
    (Qhm : PySem.W.mroIn K CQ (.type "object") = some true)
    (bV : PySem.W.subIn K (.ref CV) (.type "BaseException") = some true)
    (iV : PySem.W.isClsIn K CV = true)
    (yV : PySem.W.typeIn K (.ref CV) = some (.type "type"))
    (zV : PySem.W.subIn K (.ref CQ) (.ref CV) = some true)
    (zQ : PySem.W.subIn K (.ref CQ) (.ref CQ) = some true)
    (iG : PySem.W.isClsIn K CG = true)
    (yG : PySem.W.typeIn K (.ref CG) = some (.type "type"))
    (zG : PySem.W.subIn K (.ref CQ) (.ref CG) = some false)
    (iO : PySem.W.isClsIn K CO = true)
    (yO : PySem.W.typeIn K (.ref CO) = some (.type "type"))
    (zO : PySem.W.subIn K (.ref CQ) (.ref CO) = some false)
    (iR : PySem.W.isClsIn K CR = true)
    (yR : PySem.W.typeIn K (.ref CR) = some (.type "type"))
    (zR : PySem.W.subIn K (.ref CQ) (.ref CR) = some false)
    (iT : PySem.W.isClsIn K CTx = true)
    (yT : PySem.W.typeIn K (.ref CTx) = some (.type "type"))
    (zT : PySem.W.subIn K (.ref CQ) (.ref CTx) = some false)
    (iU : PySem.W.isClsIn K CU = true)
    (yU : PySem.W.typeIn K (.ref CU) = some (.type "type"))
    (zU : PySem.W.subIn K (.ref CQ) (.ref CU) = some false)
    (a0 : PySem.W.nsIn K mainGlobals "power" = some (some (.ref f0)))
    (l0 : K.lookup f0 = some ⟨oc0, od0, .func (PySem.W.fnOf "power" "power" (defArgs s_power) (defBody s_power) (defScope s_power) .none kV0 dc0 pm0 an0 cd0 ct0), sl0⟩) (c0 : PySem.W.codeIn K cd0 "power" = true) (k0 : PySem.W.keepIn K (.ref f0) = true)
    (a1 : PySem.W.nsIn K mainGlobals "is_prime" = some (some (.ref f1)))
    (l1 : K.lookup f1 = some ⟨oc1, od1, .func (PySem.W.fnOf "is_prime" "is_prime" (defArgs s_is_prime) (defBody s_is_prime) (defScope s_is_prime) .none kV1 dc1 pm1 an1 cd1 ct1), sl1⟩) (c1 : PySem.W.codeIn K cd1 "is_prime" = true) (k1 : PySem.W.keepIn K (.ref f1) = true)
    (a2 : PySem.W.nsIn K mainGlobals "_is_root" = some (some (.ref f2)))
    (l2 : K.lookup f2 = some ⟨oc2, od2, .func (PySem.W.fnOf "_is_root" "_is_root" (defArgs s__is_root) (defBody s__is_root) (defScope s__is_root) .none kV2 dc2 pm2 an2 cd2 ct2), sl2⟩) (c2 : PySem.W.codeIn K cd2 "_is_root" = true) (k2 : PySem.W.keepIn K (.ref f2) = true)
    (a3 : PySem.W.nsIn K mainGlobals "_check_primes" = some (some (.ref f3)))
    (l3 : K.lookup f3 = some ⟨oc3, od3, .func (PySem.W.fnOf "_check_primes" "_check_primes" (defArgs s__check_primes) (defBody s__check_primes) (defScope s__check_primes) .none kV3 dc3 pm3 an3 cd3 ct3), sl3⟩) (c3 : PySem.W.codeIn K cd3 "_check_primes" = true) (k3 : PySem.W.keepIn K (.ref f3) = true)
    (a4 : PySem.W.nsIn K mainGlobals "_check_bases" = some (some (.ref f4)))
    (l4 : K.lookup f4 = some ⟨oc4, od4, .func (PySem.W.fnOf "_check_bases" "_check_bases" (defArgs s__check_bases) (defBody s__check_bases) (defScope s__check_bases) .none kV4 dc4 pm4 an4 cd4 ct4), sl4⟩) (c4 : PySem.W.codeIn K cd4 "_check_bases" = true) (k4 : PySem.W.keepIn K (.ref f4) = true)
    (a5 : PySem.W.findIn K (.ref C0) "__init__" = some (some (.ref f5))) (i5 : PySem.W.isFn K (.ref f5) = true)
    (l5 : K.lookup f5 = some ⟨oc5, od5, .func (PySem.W.fnOf "__init__" "Group.__init__" (defArgs s_Group___init__) (defBody s_Group___init__) (defScope s_Group___init__) .none kV5 dc5 pm5 an5 cd5 ct5), sl5⟩) (c5 : PySem.W.codeIn K cd5 "Group.__init__" = true) (k5 : PySem.W.keepIn K (.ref f5) = true)
    (a6 : PySem.W.findIn K (.ref C0) "is_element" = some (some (.ref f6))) (i6 : PySem.W.isFn K (.ref f6) = true)
    (l6 : K.lookup f6 = some ⟨oc6, od6, .func (PySem.W.fnOf "is_element" "Group.is_element" (defArgs s_Group_is_element) (defBody s_Group_is_element) (defScope s_Group_is_element) .none kV6 dc6 pm6 an6 cd6 ct6), sl6⟩) (c6 : PySem.W.codeIn K cd6 "Group.is_element" = true) (k6 : PySem.W.keepIn K (.ref f6) = true)
    (a7 : PySem.W.findIn K (.ref C0) "raised" = some (some (.ref f7))) (i7 : PySem.W.isFn K (.ref f7) = true)
    (l7 : K.lookup f7 = some ⟨oc7, od7, .func (PySem.W.fnOf "raised" "Group.raised" (defArgs s_Group_raised) (defBody s_Group_raised) (defScope s_Group_raised) .none kV7 dc7 pm7 an7 cd7 ct7), sl7⟩) (c7 : PySem.W.codeIn K cd7 "Group.raised" = true) (k7 : PySem.W.keepIn K (.ref f7) = true)
    (a8 : PySem.W.findIn K (.ref C0) "product" = some (some (.ref f8))) (i8 : PySem.W.isFn K (.ref f8) = true)
    (l8 : K.lookup f8 = some ⟨oc8, od8, .func (PySem.W.fnOf "product" "Group.product" (defArgs s_Group_product) (defBody s_Group_product) (defScope s_Group_product) .none kV8 dc8 pm8 an8 cd8 ct8), sl8⟩) (c8 : PySem.W.codeIn K cd8 "Group.product" = true) (k8 : PySem.W.keepIn K (.ref f8) = true)
    (a9 : PySem.W.findIn K (.ref C0) "__eq__" = some (some (.ref f9))) (i9 : PySem.W.isFn K (.ref f9) = true)
    (l9 : K.lookup f9 = some ⟨oc9, od9, .func (PySem.W.fnOf "__eq__" "Group.__eq__" (defArgs s_Group___eq__) (defBody s_Group___eq__) (defScope s_Group___eq__) .none kV9 dc9 pm9 an9 cd9 ct9), sl9⟩) (c9 : PySem.W.codeIn K cd9 "Group.__eq__" = true) (k9 : PySem.W.keepIn K (.ref f9) = true)
    (a10 : PySem.W.nsIn K mainGlobals "kept_statement" = some (some (.ref f10)))
    (l10 : K.lookup f10 = some ⟨oc10, od10, .func (PySem.W.fnOf "_kept" "_kept" (defArgs s_kept_statement) (defBody s_kept_statement) (defScope s_kept_statement) .none kV10 dc10 pm10 an10 cd10 ct10), sl10⟩) (c10 : PySem.W.codeIn K cd10 "_kept" = true) (k10 : PySem.W.keepIn K (.ref f10) = true)
    (a11 : PySem.W.findIn K (.ref C1) "__init__" = some (some (.ref f11))) (i11 : PySem.W.isFn K (.ref f11) = true)
    (l11 : K.lookup f11 = some ⟨oc11, od11, .func (PySem.W.fnOf "__init__" "Statement.__init__" (defArgs s_Statement___init__) (defBody s_Statement___init__) (defScope s_Statement___init__) .none kV11 dc11 pm11 an11 cd11 ct11), sl11⟩) (c11 : PySem.W.codeIn K cd11 "Statement.__init__" = true) (k11 : PySem.W.keepIn K (.ref f11) = true)
    (a12 : PySem.W.nsIn K mainGlobals "_products" = some (some (.ref f12)))
    (l12 : K.lookup f12 = some ⟨oc12, od12, .func (PySem.W.fnOf "_products" "_products" (defArgs s__products) (defBody s__products) (defScope s__products) .none kV12 dc12 pm12 an12 cd12 ct12), sl12⟩) (c12 : PySem.W.codeIn K cd12 "_products" = true) (k12 : PySem.W.keepIn K (.ref f12) = true)
    (a13 : PySem.W.nsIn K mainGlobals "simulated" = some (some (.ref f13)))
    (l13 : K.lookup f13 = some ⟨oc13, od13, .func (PySem.W.fnOf "simulated" "simulated" (defArgs s_simulated) (defBody s_simulated) (defScope s_simulated) .none kV13 dc13 pm13 an13 cd13 ct13), sl13⟩) (c13 : PySem.W.codeIn K cd13 "simulated" = true) (k13 : PySem.W.keepIn K (.ref f13) = true)
    (a14 : PySem.W.findIn K (.ref C2) "__init__" = some (some (.ref f14))) (i14 : PySem.W.isFn K (.ref f14) = true)
    (l14 : K.lookup f14 = some ⟨oc14, od14, .func (PySem.W.fnOf "__init__" "Claim.__init__" (defArgs s_Claim___init__) (defBody s_Claim___init__) (defScope s_Claim___init__) .none kV14 dc14 pm14 an14 cd14 ct14), sl14⟩) (c14 : PySem.W.codeIn K cd14 "Claim.__init__" = true) (k14 : PySem.W.keepIn K (.ref f14) = true)
    (a15 : PySem.W.nsIn K mainGlobals "_has_form" = some (some (.ref f15)))
    (l15 : K.lookup f15 = some ⟨oc15, od15, .func (PySem.W.fnOf "_has_form" "_has_form" (defArgs s__has_form) (defBody s__has_form) (defScope s__has_form) .none kV15 dc15 pm15 an15 cd15 ct15), sl15⟩) (c15 : PySem.W.codeIn K cd15 "_has_form" = true) (k15 : PySem.W.keepIn K (.ref f15) = true)
    (a16 : PySem.W.nsIn K mainGlobals "_choice_fits" = some (some (.ref f16)))
    (l16 : K.lookup f16 = some ⟨oc16, od16, .func (PySem.W.fnOf "_choice_fits" "_choice_fits" (defArgs s__choice_fits) (defBody s__choice_fits) (defScope s__choice_fits) .none kV16 dc16 pm16 an16 cd16 ct16), sl16⟩) (c16 : PySem.W.codeIn K cd16 "_choice_fits" = true) (k16 : PySem.W.keepIn K (.ref f16) = true)
    (a17 : PySem.W.nsIn K mainGlobals "fits" = some (some (.ref f17)))
    (l17 : K.lookup f17 = some ⟨oc17, od17, .func (PySem.W.fnOf "fits" "fits" (defArgs s_fits) (defBody s_fits) (defScope s_fits) .none kV17 dc17 pm17 an17 cd17 ct17), sl17⟩) (c17 : PySem.W.codeIn K cd17 "fits" = true) (k17 : PySem.W.keepIn K (.ref f17) = true)
    (a18 : PySem.W.nsIn K mainGlobals "asking" = some (some (.ref f18)))
    (l18 : K.lookup f18 = some ⟨oc18, od18, .func (PySem.W.fnOf "asking" "asking" (defArgs s_asking) (defBody s_asking) (defScope s_asking) .none kV18 dc18 pm18 an18 cd18 ct18), sl18⟩) (c18 : PySem.W.codeIn K cd18 "asking" = true) (k18 : PySem.W.keepIn K (.ref f18) = true)
    (a19 : PySem.W.findIn K (.ref C3) "__init__" = some (some (.ref f19))) (i19 : PySem.W.isFn K (.ref f19) = true)
    (l19 : K.lookup f19 = some ⟨oc19, od19, .func (PySem.W.fnOf "__init__" "Kind.__init__" (defArgs s_Kind___init__) (defBody s_Kind___init__) (defScope s_Kind___init__) .none kV19 dc19 pm19 an19 cd19 ct19), sl19⟩) (c19 : PySem.W.codeIn K cd19 "Kind.__init__" = true) (k19 : PySem.W.keepIn K (.ref f19) = true)
    (a20 : PySem.W.findIn K (.ref C3) "__eq__" = some (some (.ref f20))) (i20 : PySem.W.isFn K (.ref f20) = true)
    (l20 : K.lookup f20 = some ⟨oc20, od20, .func (PySem.W.fnOf "__eq__" "Kind.__eq__" (defArgs s_Kind___eq__) (defBody s_Kind___eq__) (defScope s_Kind___eq__) .none kV20 dc20 pm20 an20 cd20 ct20), sl20⟩) (c20 : PySem.W.codeIn K cd20 "Kind.__eq__" = true) (k20 : PySem.W.keepIn K (.ref f20) = true)
    (a21 : PySem.W.nsIn K mainGlobals "kept_policy" = some (some (.ref f21)))
    (l21 : K.lookup f21 = some ⟨oc21, od21, .func (PySem.W.fnOf "_kept" "_kept" (defArgs s_kept_policy) (defBody s_kept_policy) (defScope s_kept_policy) .none kV21 dc21 pm21 an21 cd21 ct21), sl21⟩) (c21 : PySem.W.codeIn K cd21 "_kept" = true) (k21 : PySem.W.keepIn K (.ref f21) = true)
    (a22 : PySem.W.findIn K (.ref CPl) "__init__" = some (some (.ref f22))) (i22 : PySem.W.isFn K (.ref f22) = true)
    (l22 : K.lookup f22 = some ⟨oc22, od22, .func (PySem.W.fnOf "__init__" "Policy.__init__" (defArgs s_Policy___init__) (defBody s_Policy___init__) (defScope s_Policy___init__) .none kV22 dc22 pm22 an22 cd22 ct22), sl22⟩) (c22 : PySem.W.codeIn K cd22 "Policy.__init__" = true) (k22 : PySem.W.keepIn K (.ref f22) = true)
    (a23 : PySem.W.findIn K (.ref CPl) "__eq__" = some (some (.ref f23))) (i23 : PySem.W.isFn K (.ref f23) = true)
    (l23 : K.lookup f23 = some ⟨oc23, od23, .func (PySem.W.fnOf "__eq__" "Policy.__eq__" (defArgs s_Policy___eq__) (defBody s_Policy___eq__) (defScope s_Policy___eq__) .none kV23 dc23 pm23 an23 cd23 ct23), sl23⟩) (c23 : PySem.W.codeIn K cd23 "Policy.__eq__" = true) (k23 : PySem.W.keepIn K (.ref f23) = true)
    (a24 : PySem.W.findIn K (.ref CQn) "__init__" = some (some (.ref f24))) (i24 : PySem.W.isFn K (.ref f24) = true)
    (l24 : K.lookup f24 = some ⟨oc24, od24, .func (PySem.W.fnOf "__init__" "Question.__init__" (defArgs s_Question___init__) (defBody s_Question___init__) (defScope s_Question___init__) .none kV24 dc24 pm24 an24 cd24 ct24), sl24⟩) (c24 : PySem.W.codeIn K cd24 "Question.__init__" = true) (k24 : PySem.W.keepIn K (.ref f24) = true)
    (a25 : PySem.W.nsIn K mainGlobals "_counts" = some (some (.ref f25)))
    (l25 : K.lookup f25 = some ⟨oc25, od25, .func (PySem.W.fnOf "_counts" "_counts" (defArgs s__counts) (defBody s__counts) (defScope s__counts) .none kV25 dc25 pm25 an25 cd25 ct25), sl25⟩) (c25 : PySem.W.codeIn K cd25 "_counts" = true) (k25 : PySem.W.keepIn K (.ref f25) = true)
    (a26 : PySem.W.findIn K (.ref C5) "counting" = some (some (.ref f26))) (i26 : PySem.W.isFn K (.ref f26) = true)
    (l26 : K.lookup f26 = some ⟨oc26, od26, .func (PySem.W.fnOf "counting" "Issuer.counting" (defArgs s_Issuer_counting) (defBody s_Issuer_counting) (defScope s_Issuer_counting) .none kV26 dc26 pm26 an26 cd26 ct26), sl26⟩) (c26 : PySem.W.codeIn K cd26 "Issuer.counting" = true) (k26 : PySem.W.keepIn K (.ref f26) = true)
    (a27 : PySem.W.findIn K (.ref CQ) "__init__" = some (some (.ref f27))) (i27 : PySem.W.isFn K (.ref f27) = true)
    (l27 : K.lookup f27 = some ⟨oc27, od27, .func (PySem.W.fnOf "__init__" "BadQuestion.__init__" (defArgs s_BadQuestion___init__) (defBody s_BadQuestion___init__) (defScope s_BadQuestion___init__) .none kV27 dc27 pm27 an27 cd27 ct27), sl27⟩) (c27 : PySem.W.codeIn K cd27 "BadQuestion.__init__" = true) (k27 : PySem.W.keepIn K (.ref f27) = true)
    (a28 : PySem.W.nsIn K mainGlobals "_check_kind" = some (some (.ref f28)))
    (l28 : K.lookup f28 = some ⟨oc28, od28, .func (PySem.W.fnOf "_check_kind" "_check_kind" (defArgs s__check_kind) (defBody s__check_kind) (defScope s__check_kind) .none kV28 dc28 pm28 an28 cd28 ct28), sl28⟩) (c28 : PySem.W.codeIn K cd28 "_check_kind" = true) (k28 : PySem.W.keepIn K (.ref f28) = true)
    (a29 : PySem.W.nsIn K mainGlobals "_issuers_of_card" = some (some (.ref f29)))
    (l29 : K.lookup f29 = some ⟨oc29, od29, .func (PySem.W.fnOf "_issuers_of_card" "_issuers_of_card" (defArgs s__issuers_of_card) (defBody s__issuers_of_card) (defScope s__issuers_of_card) .none kV29 dc29 pm29 an29 cd29 ct29), sl29⟩) (c29 : PySem.W.codeIn K cd29 "_issuers_of_card" = true) (k29 : PySem.W.keepIn K (.ref f29) = true)
    (a30 : PySem.W.nsIn K mainGlobals "_counting_rows" = some (some (.ref f30)))
    (l30 : K.lookup f30 = some ⟨oc30, od30, .func (PySem.W.fnOf "_counting_rows" "_counting_rows" (defArgs s__counting_rows) (defBody s__counting_rows) (defScope s__counting_rows) .none kV30 dc30 pm30 an30 cd30 ct30), sl30⟩) (c30 : PySem.W.codeIn K cd30 "_counting_rows" = true) (k30 : PySem.W.keepIn K (.ref f30) = true)
    (a31 : PySem.W.nsIn K mainGlobals "question_of" = some (some (.ref f31)))
    (l31 : K.lookup f31 = some ⟨oc31, od31, .func (PySem.W.fnOf "question_of" "question_of" (defArgs s_question_of) (defBody s_question_of) (defScope s_question_of) .none kV31 dc31 pm31 an31 cd31 ct31), sl31⟩) (c31 : PySem.W.codeIn K cd31 "question_of" = true) (k31 : PySem.W.keepIn K (.ref f31) = true)
    (a32 : PySem.W.findIn K (.ref C4) "__init__" = some (some (.ref f32))) (i32 : PySem.W.isFn K (.ref f32) = true)
    (l32 : K.lookup f32 = some ⟨oc32, od32, .func (PySem.W.fnOf "__init__" "Request.__init__" (defArgs s_Request___init__) (defBody s_Request___init__) (defScope s_Request___init__) .none kV32 dc32 pm32 an32 cd32 ct32), sl32⟩) (c32 : PySem.W.codeIn K cd32 "Request.__init__" = true) (k32 : PySem.W.keepIn K (.ref f32) = true)
    (a33 : PySem.W.findIn K (.ref C5) "__init__" = some (some (.ref f33))) (i33 : PySem.W.isFn K (.ref f33) = true)
    (l33 : K.lookup f33 = some ⟨oc33, od33, .func (PySem.W.fnOf "__init__" "Issuer.__init__" (defArgs s_Issuer___init__) (defBody s_Issuer___init__) (defScope s_Issuer___init__) .none kV33 dc33 pm33 an33 cd33 ct33), sl33⟩) (c33 : PySem.W.codeIn K cd33 "Issuer.__init__" = true) (k33 : PySem.W.keepIn K (.ref f33) = true)
    (a34 : PySem.W.findIn K (.ref CR) "__init__" = some (some (.ref f34))) (i34 : PySem.W.isFn K (.ref f34) = true)
    (l34 : K.lookup f34 = some ⟨oc34, od34, .func (PySem.W.fnOf "__init__" "BadRequest.__init__" (defArgs s_BadRequest___init__) (defBody s_BadRequest___init__) (defScope s_BadRequest___init__) .none kV34 dc34 pm34 an34 cd34 ct34), sl34⟩) (c34 : PySem.W.codeIn K cd34 "BadRequest.__init__" = true) (k34 : PySem.W.keepIn K (.ref f34) = true)
    (a35 : PySem.W.findIn K (.ref CU) "__init__" = some (some (.ref f35))) (i35 : PySem.W.isFn K (.ref f35) = true)
    (l35 : K.lookup f35 = some ⟨oc35, od35, .func (PySem.W.fnOf "__init__" "BadTurn.__init__" (defArgs s_BadTurn___init__) (defBody s_BadTurn___init__) (defScope s_BadTurn___init__) .none kV35 dc35 pm35 an35 cd35 ct35), sl35⟩) (c35 : PySem.W.codeIn K cd35 "BadTurn.__init__" = true) (k35 : PySem.W.keepIn K (.ref f35) = true)
    (a36 : PySem.W.findIn K (.ref C5) "_granted_kind" = some (some (.ref f36))) (i36 : PySem.W.isFn K (.ref f36) = true)
    (l36 : K.lookup f36 = some ⟨oc36, od36, .func (PySem.W.fnOf "_granted_kind" "Issuer._granted_kind" (defArgs s_Issuer__granted_kind) (defBody s_Issuer__granted_kind) (defScope s_Issuer__granted_kind) .none kV36 dc36 pm36 an36 cd36 ct36), sl36⟩) (c36 : PySem.W.codeIn K cd36 "Issuer._granted_kind" = true) (k36 : PySem.W.keepIn K (.ref f36) = true)
    (a37 : PySem.W.findIn K (.ref C5) "_request_due" = some (some (.ref f37))) (i37 : PySem.W.isFn K (.ref f37) = true)
    (l37 : K.lookup f37 = some ⟨oc37, od37, .func (PySem.W.fnOf "_request_due" "Issuer._request_due" (defArgs s_Issuer__request_due) (defBody s_Issuer__request_due) (defScope s_Issuer__request_due) .none kV37 dc37 pm37 an37 cd37 ct37), sl37⟩) (c37 : PySem.W.codeIn K cd37 "Issuer._request_due" = true) (k37 : PySem.W.keepIn K (.ref f37) = true)
    (a38 : PySem.W.findIn K (.ref C5) "ask" = some (some (.ref f38))) (i38 : PySem.W.isFn K (.ref f38) = true)
    (l38 : K.lookup f38 = some ⟨oc38, od38, .func (PySem.W.fnOf "ask" "Issuer.ask" (defArgs s_Issuer_ask) (defBody s_Issuer_ask) (defScope s_Issuer_ask) .none kV38 dc38 pm38 an38 cd38 ct38), sl38⟩) (c38 : PySem.W.codeIn K cd38 "Issuer.ask" = true) (k38 : PySem.W.keepIn K (.ref f38) = true)
    (a39 : PySem.W.findIn K (.ref C5) "challenge" = some (some (.ref f39))) (i39 : PySem.W.isFn K (.ref f39) = true)
    (l39 : K.lookup f39 = some ⟨oc39, od39, .func (PySem.W.fnOf "challenge" "Issuer.challenge" (defArgs s_Issuer_challenge) (defBody s_Issuer_challenge) (defScope s_Issuer_challenge) .none kV39 dc39 pm39 an39 cd39 ct39), sl39⟩) (c39 : PySem.W.codeIn K cd39 "Issuer.challenge" = true) (k39 : PySem.W.keepIn K (.ref f39) = true)
    (a40 : PySem.W.findIn K (.ref C5) "grant" = some (some (.ref f40))) (i40 : PySem.W.isFn K (.ref f40) = true)
    (l40 : K.lookup f40 = some ⟨oc40, od40, .func (PySem.W.fnOf "grant" "Issuer.grant" (defArgs s_Issuer_grant) (defBody s_Issuer_grant) (defScope s_Issuer_grant) .none kV40 dc40 pm40 an40 cd40 ct40), sl40⟩) (c40 : PySem.W.codeIn K cd40 "Issuer.grant" = true) (k40 : PySem.W.keepIn K (.ref f40) = true)
    (a41 : PySem.W.findIn K (.ref C5) "revoke" = some (some (.ref f41))) (i41 : PySem.W.isFn K (.ref f41) = true)
    (l41 : K.lookup f41 = some ⟨oc41, od41, .func (PySem.W.fnOf "revoke" "Issuer.revoke" (defArgs s_Issuer_revoke) (defBody s_Issuer_revoke) (defScope s_Issuer_revoke) .none kV41 dc41 pm41 an41 cd41 ct41), sl41⟩) (c41 : PySem.W.codeIn K cd41 "Issuer.revoke" = true) (k41 : PySem.W.keepIn K (.ref f41) = true)
    (a42 : PySem.W.nsIn K mainGlobals "_may_have" = some (some (.ref f42)))
    (l42 : K.lookup f42 = some ⟨oc42, od42, .func (PySem.W.fnOf "_may_have" "_may_have" (defArgs s__may_have) (defBody s__may_have) (defScope s__may_have) .none kV42 dc42 pm42 an42 cd42 ct42), sl42⟩) (c42 : PySem.W.codeIn K cd42 "_may_have" = true) (k42 : PySem.W.keepIn K (.ref f42) = true)
    (a43 : PySem.W.nsIn K mainGlobals "_law_pool" = some (some (.ref f43)))
    (l43 : K.lookup f43 = some ⟨oc43, od43, .func (PySem.W.fnOf "_law_pool" "_law_pool" (defArgs s__law_pool) (defBody s__law_pool) (defScope s__law_pool) .none kV43 dc43 pm43 an43 cd43 ct43), sl43⟩) (c43 : PySem.W.codeIn K cd43 "_law_pool" = true) (k43 : PySem.W.keepIn K (.ref f43) = true)
    (a44 : PySem.W.nsIn K mainGlobals "_law_draw" = some (some (.ref f44)))
    (l44 : K.lookup f44 = some ⟨oc44, od44, .func (PySem.W.fnOf "_law_draw" "_law_draw" (defArgs s__law_draw) (defBody s__law_draw) (defScope s__law_draw) .none kV44 dc44 pm44 an44 cd44 ct44), sl44⟩) (c44 : PySem.W.codeIn K cd44 "_law_draw" = true) (k44 : PySem.W.keepIn K (.ref f44) = true)
    (a45 : PySem.W.nsIn K mainGlobals "_law_same" = some (some (.ref f45)))
    (l45 : K.lookup f45 = some ⟨oc45, od45, .func (PySem.W.fnOf "_law_same" "_law_same" (defArgs s__law_same) (defBody s__law_same) (defScope s__law_same) .none kV45 dc45 pm45 an45 cd45 ct45), sl45⟩) (c45 : PySem.W.codeIn K cd45 "_law_same" = true) (k45 : PySem.W.keepIn K (.ref f45) = true)
    (a46 : PySem.W.nsIn K mainGlobals "_law_power" = some (some (.ref f46)))
    (l46 : K.lookup f46 = some ⟨oc46, od46, .func (PySem.W.fnOf "_law_power" "_law_power" (defArgs s__law_power) (defBody s__law_power) (defScope s__law_power) .none kV46 dc46 pm46 an46 cd46 ct46), sl46⟩) (c46 : PySem.W.codeIn K cd46 "_law_power" = true) (k46 : PySem.W.keepIn K (.ref f46) = true)
    (a47 : PySem.W.nsIn K mainGlobals "_law_raised" = some (some (.ref f47)))
    (l47 : K.lookup f47 = some ⟨oc47, od47, .func (PySem.W.fnOf "_law_raised" "_law_raised" (defArgs s__law_raised) (defBody s__law_raised) (defScope s__law_raised) .none kV47 dc47 pm47 an47 cd47 ct47), sl47⟩) (c47 : PySem.W.codeIn K cd47 "_law_raised" = true) (k47 : PySem.W.keepIn K (.ref f47) = true)
    (a48 : PySem.W.nsIn K mainGlobals "_law_product" = some (some (.ref f48)))
    (l48 : K.lookup f48 = some ⟨oc48, od48, .func (PySem.W.fnOf "_law_product" "_law_product" (defArgs s__law_product) (defBody s__law_product) (defScope s__law_product) .none kV48 dc48 pm48 an48 cd48 ct48), sl48⟩) (c48 : PySem.W.codeIn K cd48 "_law_product" = true) (k48 : PySem.W.keepIn K (.ref f48) = true)
    (a49 : PySem.W.nsIn K mainGlobals "_law_commit" = some (some (.ref f49)))
    (l49 : K.lookup f49 = some ⟨oc49, od49, .func (PySem.W.fnOf "_law_commit" "_law_commit" (defArgs s__law_commit) (defBody s__law_commit) (defScope s__law_commit) .none kV49 dc49 pm49 an49 cd49 ct49), sl49⟩) (c49 : PySem.W.codeIn K cd49 "_law_commit" = true) (k49 : PySem.W.keepIn K (.ref f49) = true)
    (a50 : PySem.W.nsIn K mainGlobals "_law_group" = some (some (.ref f50)))
    (l50 : K.lookup f50 = some ⟨oc50, od50, .func (PySem.W.fnOf "_law_group" "_law_group" (defArgs s__law_group) (defBody s__law_group) (defScope s__law_group) .none kV50 dc50 pm50 an50 cd50 ct50), sl50⟩) (c50 : PySem.W.codeIn K cd50 "_law_group" = true) (k50 : PySem.W.keepIn K (.ref f50) = true)
    (a51 : PySem.W.nsIn K mainGlobals "_law_numbers" = some (some (.ref f51)))
    (l51 : K.lookup f51 = some ⟨oc51, od51, .func (PySem.W.fnOf "_law_numbers" "_law_numbers" (defArgs s__law_numbers) (defBody s__law_numbers) (defScope s__law_numbers) .none kV51 dc51 pm51 an51 cd51 ct51), sl51⟩) (c51 : PySem.W.codeIn K cd51 "_law_numbers" = true) (k51 : PySem.W.keepIn K (.ref f51) = true)
    (a52 : PySem.W.nsIn K mainGlobals "_law_kinds" = some (some (.ref f52)))
    (l52 : K.lookup f52 = some ⟨oc52, od52, .func (PySem.W.fnOf "_law_kinds" "_law_kinds" (defArgs s__law_kinds) (defBody s__law_kinds) (defScope s__law_kinds) .none kV52 dc52 pm52 an52 cd52 ct52), sl52⟩) (c52 : PySem.W.codeIn K cd52 "_law_kinds" = true) (k52 : PySem.W.keepIn K (.ref f52) = true)
    (a53 : PySem.W.nsIn K mainGlobals "_law_granted" = some (some (.ref f53)))
    (l53 : K.lookup f53 = some ⟨oc53, od53, .func (PySem.W.fnOf "_law_granted" "_law_granted" (defArgs s__law_granted) (defBody s__law_granted) (defScope s__law_granted) .none kV53 dc53 pm53 an53 cd53 ct53), sl53⟩) (c53 : PySem.W.codeIn K cd53 "_law_granted" = true) (k53 : PySem.W.keepIn K (.ref f53) = true)
    (a54 : PySem.W.nsIn K mainGlobals "_law_issuer" = some (some (.ref f54)))
    (l54 : K.lookup f54 = some ⟨oc54, od54, .func (PySem.W.fnOf "_law_issuer" "_law_issuer" (defArgs s__law_issuer) (defBody s__law_issuer) (defScope s__law_issuer) .none kV54 dc54 pm54 an54 cd54 ct54), sl54⟩) (c54 : PySem.W.codeIn K cd54 "_law_issuer" = true) (k54 : PySem.W.keepIn K (.ref f54) = true)
    (a55 : PySem.W.nsIn K mainGlobals "_law_found" = some (some (.ref f55)))
    (l55 : K.lookup f55 = some ⟨oc55, od55, .func (PySem.W.fnOf "_law_found" "_law_found" (defArgs s__law_found) (defBody s__law_found) (defScope s__law_found) .none kV55 dc55 pm55 an55 cd55 ct55), sl55⟩) (c55 : PySem.W.codeIn K cd55 "_law_found" = true) (k55 : PySem.W.keepIn K (.ref f55) = true)
    (a56 : PySem.W.nsIn K mainGlobals "law" = some (some (.ref f56)))
    (l56 : K.lookup f56 = some ⟨oc56, od56, .func (PySem.W.fnOf "law" "law" (defArgs s_law) (defBody s_law) (defScope s_law) .none kV56 dc56 pm56 an56 cd56 ct56), sl56⟩) (c56 : PySem.W.codeIn K cd56 "law" = true) (k56 : PySem.W.keepIn K (.ref f56) = true)
    (z_isinstance : PySem.W.nsIn K mainGlobals "isinstance" = some none)
    (z_len : PySem.W.nsIn K mainGlobals "len" = some none)
    (z_sum : PySem.W.nsIn K mainGlobals "sum" = some none)
    (z_max : PySem.W.nsIn K mainGlobals "max" = some none)
    (z_min : PySem.W.nsIn K mainGlobals "min" = some none)
    (z_abs : PySem.W.nsIn K mainGlobals "abs" = some none)
    (z_any : PySem.W.nsIn K mainGlobals "any" = some none)
    (z_all : PySem.W.nsIn K mainGlobals "all" = some none)
    (z_sorted : PySem.W.nsIn K mainGlobals "sorted" = some none)
    (z_int : PySem.W.nsIn K mainGlobals "int" = some none)
    (z_bool : PySem.W.nsIn K mainGlobals "bool" = some none)
    (z_str : PySem.W.nsIn K mainGlobals "str" = some none)
    (z_list : PySem.W.nsIn K mainGlobals "list" = some none)
    (z_tuple : PySem.W.nsIn K mainGlobals "tuple" = some none)
    (z_dict : PySem.W.nsIn K mainGlobals "dict" = some none)
    (z_range : PySem.W.nsIn K mainGlobals "range" = some none)
    (z_enumerate : PySem.W.nsIn K mainGlobals "enumerate" = some none)
    (z_zip : PySem.W.nsIn K mainGlobals "zip" = some none) :
    ∃ fd : FuncData, (∀ (s : Shared) (v : Value), BindsTo s fd ⟨[v], []⟩ [("script", v)]) ∧ ∀ base : Heap, K.In base → base.Ns mainGlobals mg → FnOk l.prog w K mg base CX0 24 fa fd ["script"] (spLaw K) := by
  have e := hfa.symm.trans (PySem.W.mg_of X G a56)
  cases e
  have B : Blt mg := ⟨PySem.W.mg_none_of X G z_isinstance, PySem.W.mg_none_of X G z_len, PySem.W.mg_none_of X G z_sum, PySem.W.mg_none_of X G z_max, PySem.W.mg_none_of X G z_min, PySem.W.mg_none_of X G z_abs, PySem.W.mg_none_of X G z_any, PySem.W.mg_none_of X G z_all, PySem.W.mg_none_of X G z_sorted, PySem.W.mg_none_of X G z_int, PySem.W.mg_none_of X G z_bool, PySem.W.mg_none_of X G z_str, PySem.W.mg_none_of X G z_list, PySem.W.mg_none_of X G z_tuple, PySem.W.mg_none_of X G z_dict, PySem.W.mg_none_of X G z_range, PySem.W.mg_none_of X G z_enumerate, PySem.W.mg_none_of X G z_zip⟩
  have F0 := fun_mk (st := s_power) l0 c0 k0
  have b0 := F0.binds (ps := ["base", "exponent", "modulus"]) fun _ _ _ _ _ _ us hl => match us, hl with | [_, _, _], _ => rfl
  have m0 := PySem.W.mg_of X G a0
  have F1 := fun_mk (st := s_is_prime) l1 c1 k1
  have b1 := F1.binds (ps := ["number"]) fun _ _ _ _ _ _ us hl => match us, hl with | [_], _ => rfl
  have m1 := PySem.W.mg_of X G a1
  have F2 := fun_mk (st := s__is_root) l2 c2 k2
  have b2 := F2.binds (ps := ["p", "q", "number"]) fun _ _ _ _ _ _ us hl => match us, hl with | [_, _, _], _ => rfl
  have m2 := PySem.W.mg_of X G a2
  have F3 := fun_mk (st := s__check_primes) l3 c3 k3
  have b3 := F3.binds (ps := ["p", "q"]) fun _ _ _ _ _ _ us hl => match us, hl with | [_, _], _ => rfl
  have m3 := PySem.W.mg_of X G a3
  have F4 := fun_mk (st := s__check_bases) l4 c4 k4
  have b4 := F4.binds (ps := ["p", "q", "bases"]) fun _ _ _ _ _ _ us hl => match us, hl with | [_, _, _], _ => rfl
  have m4 := PySem.W.mg_of X G a4
  have F5 := fun_mk (st := s_Group___init__) l5 c5 k5
  have b5 := F5.binds (ps := ["self", "p", "q", "bases"]) fun _ _ _ _ _ _ us hl => match us, hl with | [_, _, _, _], _ => rfl
  have F6 := fun_mk (st := s_Group_is_element) l6 c6 k6
  have b6 := F6.binds (ps := ["self", "number"]) fun _ _ _ _ _ _ us hl => match us, hl with | [_, _], _ => rfl
  have F7 := fun_mk (st := s_Group_raised) l7 c7 k7
  have b7 := F7.binds (ps := ["self", "element", "exponent"]) fun _ _ _ _ _ _ us hl => match us, hl with | [_, _, _], _ => rfl
  have F8 := fun_mk (st := s_Group_product) l8 c8 k8
  have b8 := F8.binds (ps := ["self", "pairs"]) fun _ _ _ _ _ _ us hl => match us, hl with | [_, _], _ => rfl
  have F9 := fun_mk (st := s_Group___eq__) l9 c9 k9
  have b9 := F9.binds (ps := ["self", "other"]) fun _ _ _ _ _ _ us hl => match us, hl with | [_, _], _ => rfl
  have F10 := fun_mk (st := s_kept_statement) l10 c10 k10
  have b10 := F10.binds (ps := ["equation"]) fun _ _ _ _ _ _ us hl => match us, hl with | [_], _ => rfl
  have m10 := PySem.W.mg_of X G a10
  have F11 := fun_mk (st := s_Statement___init__) l11 c11 k11
  have b11 := F11.binds (ps := ["self", "unknowns", "equations"]) fun _ _ _ _ _ _ us hl => match us, hl with | [_, _, _], _ => rfl
  have F12 := fun_mk (st := s__products) l12 c12 k12
  have b12 := F12.binds (ps := ["group", "statement", "exponents"]) fun _ _ _ _ _ _ us hl => match us, hl with | [_, _, _], _ => rfl
  have m12 := PySem.W.mg_of X G a12
  have F13 := fun_mk (st := s_simulated) l13 c13 k13
  have b13 := F13.binds (ps := ["group", "statement", "challenge", "replies"]) fun _ _ _ _ _ _ us hl => match us, hl with | [_, _, _, _], _ => rfl
  have m13 := PySem.W.mg_of X G a13
  have F14 := fun_mk (st := s_Claim___init__) l14 c14 k14
  have b14 := F14.binds (ps := ["self", "statement", "choices"]) fun _ _ _ _ _ _ us hl => match us, hl with | [_, _, _], _ => rfl
  have F15 := fun_mk (st := s__has_form) l15 c15 k15
  have b15 := F15.binds (ps := ["claim", "first", "replied"]) fun _ _ _ _ _ _ us hl => match us, hl with | [_, _, _], _ => rfl
  have m15 := PySem.W.mg_of X G a15
  have F16 := fun_mk (st := s__choice_fits) l16 c16 k16
  have b16 := F16.binds (ps := ["group", "branches", "moves", "challenge", "pairs"]) fun _ _ _ _ _ _ us hl => match us, hl with | [_, _, _, _, _], _ => rfl
  have m16 := PySem.W.mg_of X G a16
  have F17 := fun_mk (st := s_fits) l17 c17 k17
  have b17 := F17.binds (ps := ["group", "claim", "first", "challenge", "replied"]) fun _ _ _ _ _ _ us hl => match us, hl with | [_, _, _, _, _], _ => rfl
  have m17 := PySem.W.mg_of X G a17
  have F18 := fun_mk (st := s_asking) l18 c18 k18
  have b18 := F18.binds (ps := ["group", "element"]) fun _ _ _ _ _ _ us hl => match us, hl with | [_, _], _ => rfl
  have m18 := PySem.W.mg_of X G a18
  have F19 := fun_mk (st := s_Kind___init__) l19 c19 k19
  have b19 := F19.binds (ps := ["self", "name", "fields"]) fun _ _ _ _ _ _ us hl => match us, hl with | [_, _, _], _ => rfl
  have F20 := fun_mk (st := s_Kind___eq__) l20 c20 k20
  have b20 := F20.binds (ps := ["self", "other"]) fun _ _ _ _ _ _ us hl => match us, hl with | [_, _], _ => rfl
  have F21 := fun_mk (st := s_kept_policy) l21 c21 k21
  have b21 := F21.binds (ps := ["condition"]) fun _ _ _ _ _ _ us hl => match us, hl with | [_], _ => rfl
  have m21 := PySem.W.mg_of X G a21
  have F22 := fun_mk (st := s_Policy___init__) l22 c22 k22
  have b22 := F22.binds (ps := ["self", "cards", "conditions"]) fun _ _ _ _ _ _ us hl => match us, hl with | [_, _, _], _ => rfl
  have F23 := fun_mk (st := s_Policy___eq__) l23 c23 k23
  have b23 := F23.binds (ps := ["self", "other"]) fun _ _ _ _ _ _ us hl => match us, hl with | [_, _], _ => rfl
  have F24 := fun_mk (st := s_Question___init__) l24 c24 k24
  have b24 := F24.binds (ps := ["self", "group", "kinds", "policy", "rows"]) fun _ _ _ _ _ _ us hl => match us, hl with | [_, _, _, _, _], _ => rfl
  have F25 := fun_mk (st := s__counts) l25 c25 k25
  have b25 := F25.binds (ps := ["row", "day"]) fun _ _ _ _ _ _ us hl => match us, hl with | [_, _], _ => rfl
  have m25 := PySem.W.mg_of X G a25
  have F26 := fun_mk (st := s_Issuer_counting) l26 c26 k26
  have b26 := F26.binds (ps := ["self", "kind", "day"]) fun _ _ _ _ _ _ us hl => match us, hl with | [_, _, _], _ => rfl
  have F27 := fun_mk (st := s_BadQuestion___init__) l27 c27 k27
  have b27 := F27.binds (ps := ["self", "what"]) fun _ _ _ _ _ _ us hl => match us, hl with | [_, _], _ => rfl
  have F28 := fun_mk (st := s__check_kind) l28 c28 k28
  have b28 := F28.binds (ps := ["group", "kind"]) fun _ _ _ _ _ _ us hl => match us, hl with | [_, _], _ => rfl
  have m28 := PySem.W.mg_of X G a28
  have F29 := fun_mk (st := s__issuers_of_card) l29 c29 k29
  have b29 := F29.binds (ps := ["group", "kind", "names", "issuers"]) fun _ _ _ _ _ _ us hl => match us, hl with | [_, _, _, _], _ => rfl
  have m29 := PySem.W.mg_of X G a29
  have F30 := fun_mk (st := s__counting_rows) l30 c30 k30
  have b30 := F30.binds (ps := ["kind", "issuers", "day"]) fun _ _ _ _ _ _ us hl => match us, hl with | [_, _, _], _ => rfl
  have m30 := PySem.W.mg_of X G a30
  have F31 := fun_mk (st := s_question_of) l31 c31 k31
  have b31 := F31.binds (ps := ["group", "kinds", "policy", "issuers", "day"]) fun _ _ _ _ _ _ us hl => match us, hl with | [_, _, _, _, _], _ => rfl
  have m31 := PySem.W.mg_of X G a31
  have F32 := fun_mk (st := s_Request___init__) l32 c32 k32
  have b32 := F32.binds (ps := ["self", "kind", "element", "first"]) fun _ _ _ _ _ _ us hl => match us, hl with | [_, _, _, _], _ => rfl
  have F33 := fun_mk (st := s_Issuer___init__) l33 c33 k33
  have b33 := F33.binds (ps := ["self", "name", "group", "kinds"]) fun _ _ _ _ _ _ us hl => match us, hl with | [_, _, _, _], _ => rfl
  have F34 := fun_mk (st := s_BadRequest___init__) l34 c34 k34
  have b34 := F34.binds (ps := ["self", "what"]) fun _ _ _ _ _ _ us hl => match us, hl with | [_, _], _ => rfl
  have F35 := fun_mk (st := s_BadTurn___init__) l35 c35 k35
  have b35 := F35.binds (ps := ["self", "what"]) fun _ _ _ _ _ _ us hl => match us, hl with | [_, _], _ => rfl
  have F36 := fun_mk (st := s_Issuer__granted_kind) l36 c36 k36
  have b36 := F36.binds (ps := ["self", "name"]) fun _ _ _ _ _ _ us hl => match us, hl with | [_, _], _ => rfl
  have F37 := fun_mk (st := s_Issuer__request_due) l37 c37 k37
  have b37 := F37.binds (ps := ["self", "number", "due"]) fun _ _ _ _ _ _ us hl => match us, hl with | [_, _, _], _ => rfl
  have F38 := fun_mk (st := s_Issuer_ask) l38 c38 k38
  have b38 := F38.binds (ps := ["self", "kind", "element", "first"]) fun _ _ _ _ _ _ us hl => match us, hl with | [_, _, _, _], _ => rfl
  have F39 := fun_mk (st := s_Issuer_challenge) l39 c39 k39
  have b39 := F39.binds (ps := ["self", "number", "challenge"]) fun _ _ _ _ _ _ us hl => match us, hl with | [_, _, _], _ => rfl
  have F40 := fun_mk (st := s_Issuer_grant) l40 c40 k40
  have b40 := F40.binds (ps := ["self", "number", "replied", "values", "day"]) fun _ _ _ _ _ _ us hl => match us, hl with | [_, _, _, _, _], _ => rfl
  have F41 := fun_mk (st := s_Issuer_revoke) l41 c41 k41
  have b41 := F41.binds (ps := ["self", "index", "day"]) fun _ _ _ _ _ _ us hl => match us, hl with | [_, _, _], _ => rfl
  have F42 := fun_mk (st := s__may_have) l42 c42 k42
  have b42 := F42.binds (ps := ["kind", "values"]) fun _ _ _ _ _ _ us hl => match us, hl with | [_, _], _ => rfl
  have m42 := PySem.W.mg_of X G a42
  have F43 := fun_mk (st := s__law_pool) l43 c43 k43
  have b43 := F43.binds (ps := ["script", "budget"]) fun _ _ _ _ _ _ us hl => match us, hl with | [_, _], _ => rfl
  have m43 := PySem.W.mg_of X G a43
  have F44 := fun_mk (st := s__law_draw) l44 c44 k44
  have b44 := F44.binds (ps := ["pool", "size"]) fun _ _ _ _ _ _ us hl => match us, hl with | [_, _], _ => rfl
  have m44 := PySem.W.mg_of X G a44
  have F45 := fun_mk (st := s__law_same) l45 c45 k45
  have b45 := F45.binds (ps := ["actual", "due"]) fun _ _ _ _ _ _ us hl => match us, hl with | [_, _], _ => rfl
  have m45 := PySem.W.mg_of X G a45
  have F46 := fun_mk (st := s__law_power) l46 c46 k46
  have b46 := F46.binds (ps := ["base", "exponent", "modulus"]) fun _ _ _ _ _ _ us hl => match us, hl with | [_, _, _], _ => rfl
  have m46 := PySem.W.mg_of X G a46
  have F47 := fun_mk (st := s__law_raised) l47 c47 k47
  have b47 := F47.binds (ps := ["group", "element", "exponent"]) fun _ _ _ _ _ _ us hl => match us, hl with | [_, _, _], _ => rfl
  have m47 := PySem.W.mg_of X G a47
  have F48 := fun_mk (st := s__law_product) l48 c48 k48
  have b48 := F48.binds (ps := ["group", "pairs"]) fun _ _ _ _ _ _ us hl => match us, hl with | [_, _], _ => rfl
  have m48 := PySem.W.mg_of X G a48
  have F49 := fun_mk (st := s__law_commit) l49 c49 k49
  have b49 := F49.binds (ps := ["group", "exponents"]) fun _ _ _ _ _ _ us hl => match us, hl with | [_, _], _ => rfl
  have m49 := PySem.W.mg_of X G a49
  have F50 := fun_mk (st := s__law_group) l50 c50 k50
  have b50 := F50.binds (ps := ["pool", "count", "least"]) fun _ _ _ _ _ _ us hl => match us, hl with | [_, _, _], _ => rfl
  have m50 := PySem.W.mg_of X G a50
  have F51 := fun_mk (st := s__law_numbers) l51 c51 k51
  have b51 := F51.binds (ps := ["pool", "group", "count"]) fun _ _ _ _ _ _ us hl => match us, hl with | [_, _, _], _ => rfl
  have m51 := PySem.W.mg_of X G a51
  have F52 := fun_mk (st := s__law_kinds) l52 c52 k52
  have b52 := F52.binds (ps := ["pool", "most"]) fun _ _ _ _ _ _ us hl => match us, hl with | [_, _], _ => rfl
  have m52 := PySem.W.mg_of X G a52
  have F53 := fun_mk (st := s__law_granted) l53 c53 k53
  have b53 := F53.binds (ps := ["pool", "group", "issuer", "kind", "randomness", "secret", "numbers", "day"]) fun _ _ _ _ _ _ us hl => match us, hl with | [_, _, _, _, _, _, _, _], _ => rfl
  have m53 := PySem.W.mg_of X G a53
  have F54 := fun_mk (st := s__law_issuer) l54 c54 k54
  have b54 := F54.binds (ps := ["pool", "group", "kinds", "name"]) fun _ _ _ _ _ _ us hl => match us, hl with | [_, _, _, _], _ => rfl
  have m54 := PySem.W.mg_of X G a54
  have F55 := fun_mk (st := s__law_found) l55 c55 k55
  have b55 := F55.binds (ps := ["group", "kinds", "card", "issuers", "day"]) fun _ _ _ _ _ _ us hl => match us, hl with | [_, _, _, _, _], _ => rfl
  have m55 := PySem.W.mg_of X G a55
  have F56 := fun_mk (st := s_law) l56 c56 k56
  have b56 := F56.binds (ps := ["script"]) fun _ _ _ _ _ _ us hl => match us, hl with | [_], _ => rfl
  have m56 := PySem.W.mg_of X G a56
  refine ⟨PySem.W.fnOf "law" "law" (defArgs s_law) (defBody s_law) (defScope s_law) .none kV56 dc56 pm56 an56 cd56 ct56, fun s v => .of_eq rfl, fun base _ _ => ?_⟩
  have cls_C0 : Cls K C0 := ⟨pg_C0, hd_C0, po_C0, sa_C0⟩
  have cls_C1 : Cls K C1 := ⟨pg_C1, hd_C1, po_C1, sa_C1⟩
  have cls_C2 : Cls K C2 := ⟨pg_C2, hd_C2, po_C2, sa_C2⟩
  have cls_C3 : Cls K C3 := ⟨pg_C3, hd_C3, po_C3, sa_C3⟩
  have cls_C4 : Cls K C4 := ⟨pg_C4, hd_C4, po_C4, sa_C4⟩
  have cls_C5 : Cls K C5 := ⟨pg_C5, hd_C5, po_C5, sa_C5⟩
  have cls_CPl : Cls K CPl := ⟨pg_CPl, hd_CPl, po_CPl, sa_CPl⟩
  have cls_CQn : Cls K CQn := ⟨pg_CQn, hd_CQn, po_CQn, sa_CQn⟩
  have T0 : GT K C0 := ⟨cls_C0, nC0p, nC0q, nC0bases⟩
  have T1 : ST K C1 := ⟨cls_C1, nC1unknowns, nC1equations⟩
  have T2 : CT K C2 := ⟨cls_C2, nC2statement, nC2choices⟩
  have T3 : KdT K C3 := ⟨cls_C3, nC3name, nC3fields⟩
  have T4 : RqT K C4 := ⟨cls_C4, nC4kind, nC4element, nC4first, nC4drawn, nC4state⟩
  have T5 : IsT K C5 := ⟨cls_C5, nC5name, nC5group, nC5kinds, nC5book, nC5_requests⟩
  have T8 : PoT K CPl := ⟨cls_CPl, nCPlcards, nCPlconditions⟩
  have T9 : QuT K CQn := ⟨cls_CQn, nCQngroup, nCQnkinds, nCQnpolicy, nCQnrows⟩
  have gl : Glb mg := ⟨⟨_, PySem.W.mg_of X G gS⟩, ⟨_, PySem.W.mg_of X G gL⟩, ⟨_, PySem.W.mg_of X G gF⟩, ⟨_, PySem.W.mg_of X G gM⟩⟩
  have gi : GlI mg := ⟨⟨_, PySem.W.mg_of X G gA⟩, ⟨_, PySem.W.mg_of X G gC⟩, ⟨_, PySem.W.mg_of X G gG⟩, ⟨_, PySem.W.mg_of X G gR⟩⟩
  have I0 : IsiC K C0 := ⟨cls_C0, ha0, hn1, ht1, hm0⟩
  have I3 : IsiC K C3 := ⟨cls_C3, ha3, hn1, ht1, hm3⟩
  have I8 : IsiC K CPl := ⟨cls_CPl, ha8, hn1, ht1, hm8⟩
  have gq : GlQ mg := ⟨⟨_, PySem.W.mg_of X G gQ1⟩, ⟨_, PySem.W.mg_of X G gQ2⟩⟩
  have oexR : OexC K CR := ⟨⟨Rnm, Rq, RN, Rbs, Rbm, Rsn, Rsub, Rab, Rcol, Rdd, Rk0, Rk1, Rk2, Rk3, Rk5, Rlk, Rrf⟩, Rsa, Rbe, Rty, Rkc⟩
  have oexU : OexC K CU := ⟨⟨Unm, Uq, UN, Ubs, Ubm, Usn, Usub, Uab, Ucol, Udd, Uk0, Uk1, Uk2, Uk3, Uk5, Ulk, Urf⟩, Usa, Ube, Uty, Ukc⟩
  have oexQ : OexC K CQ := ⟨⟨Qnm, Qq, QN, Qbs, Qbm, Qsn, Qsub, Qab, Qcol, Qdd, Qk0, Qk1, Qk2, Qk3, Qk5, Qlk, Qrf⟩, Qsa, Qbe, Qty, Qkc⟩
  have XE : L2.ExcC K ((caZ C0 C1 C2 C3 C4 C5 CPl CQn CR CQ CU) 12) := ⟨Qga, Qgg, Qbe, Qhd, Qha, hn1, ht1, Qhm⟩
  have XF : XfC K ((caZ C0 C1 C2 C3 C4 C5 CPl CQn CR CQ CU) 12) ∧ PySem.W.findIn K (.ref ((caZ C0 C1 C2 C3 C4 C5 CPl CQn CR CQ CU) 12)) "what" = some none := ⟨⟨Qga, Qgg, Qbe, Qhd⟩, Qwh⟩
  have XK : ∀ k ∈ [12], (∃ f, xcN k = some f) ∧ PySem.W.exmOne K (.ref ((caZ C0 C1 C2 C3 C4 C5 CPl CQn CR CQ CU) k)) (.ref CV) = some true := fun k hk => by obtain rfl := List.mem_singleton.mp hk; exact ⟨⟨_, rfl⟩, exm_of bV iV yV zV⟩
  have er : Errs32 K mg (caZ C0 C1 C2 C3 C4 C5 CPl CQn CR CQ CU) CV CG CO CR CTx CU := ⟨PySem.W.mg_of X G a_CV, PySem.W.mg_of X G a_CG, PySem.W.mg_of X G a_CO, PySem.W.mg_of X G a_CQ, PySem.W.mg_of X G a_CR, PySem.W.mg_of X G a_CTx, PySem.W.mg_of X G a_CU⟩
  have C_power : C8.Cal l.prog w K mg base 1 "power" spPower [] := ⟨⟨_, _, _, [], ok_power F0 , m0, k0, b0, .nil⟩⟩
  have D_power : C8.Cal l.prog w K mg base 1 "power" (toSp K (caZ C0 C1 C2 C3 C4 C5 CPl CQn CR CQ CU) aspPower) [] := cal_weak sp_power C_power
  have C_is_prime : C8.Cal l.prog w K mg base 1 "is_prime" spIsPrime [] := ⟨⟨_, _, _, [], ok_is_prime F1 , m1, k1, b1, .nil⟩⟩
  have C__is_root : C8.Cal l.prog w K mg base 2 "_is_root" spRoot [] := ⟨⟨_, _, _, [], ok_is_root F2 C_power, m2, k2, b2, .nil⟩⟩
  have D_root : C8.Cal l.prog w K mg base 2 "_is_root" (toSp K (caZ C0 C1 C2 C3 C4 C5 CPl CQn CR CQ CU) aspRoot) [] := cal_weak sp_root C__is_root
  have C__check_primes : C8.Cal l.prog w K mg base 2 "_check_primes" spCheckPrimes [] := ⟨⟨_, _, _, [], ok_check_primes F3 gl C_is_prime, m3, k3, b3, .nil⟩⟩
  have D_primes : C8.Cal l.prog w K mg base 2 "_check_primes" (toSp K (caZ C0 C1 C2 C3 C4 C5 CPl CQn CR CQ CU) aspCheckPrimes) [] := cal_weak sp_check_primes C__check_primes
  have C__check_bases : C8.Cal l.prog w K mg base 3 "_check_bases" (spCheckBases K) [] := ⟨⟨_, _, _, [], ok_check_bases F4 gl B C__is_root, m4, k4, b4, .nil⟩⟩
  have D_bases : C8.Cal l.prog w K mg base 3 "_check_bases" (toSp K (caZ C0 C1 C2 C3 C4 C5 CPl CQn CR CQ CU) aspCheckBases) [] := cal_weak sp_check_bases C__check_bases
  have K_Group : C8.Mak l.prog w K mg base 4 "Group" C0 (toSpI K (caZ C0 C1 C2 C3 C4 C5 CPl CQn CR CQ CU) 0 aspGroupI) [] := ⟨⟨f5, _, _, [], ⟨mk_C0, a5, i5, kc_C0⟩, ok_group_init F5 T0 B D_primes D_bases, PySem.W.mg_of X G a_C0, b5, .nil⟩⟩
  have M_is_element : C8.Met l.prog w K mg base 3 C0 "is_element" (toSp K (caZ C0 C1 C2 C3 C4 C5 CPl CQn CR CQ CU) aspIsEl) [] := ⟨⟨f6, _, _, [], cls_C0, ⟨a6, i6, k6⟩, ok_is_element F6 T0 D_root, b6, .nil⟩⟩
  have M_raised : C8.Met l.prog w K mg base 2 C0 "raised" (toSp K (caZ C0 C1 C2 C3 C4 C5 CPl CQn CR CQ CU) aspRaised) [] := ⟨⟨f7, _, _, [], cls_C0, ⟨a7, i7, k7⟩, ok_raised F7 T0 D_power, b7, .nil⟩⟩
  have M_product : C8.Met l.prog w K mg base 3 C0 "product" (toSp K (caZ C0 C1 C2 C3 C4 C5 CPl CQn CR CQ CU) aspProduct) [] := ⟨⟨f8, _, _, [], cls_C0, ⟨a8, i8, k8⟩, ok_product F8 T0 M_raised, b8, .nil⟩⟩
  have E0 : EqM l.prog w K mg base 1 C0 (toSp K (caZ C0 C1 C2 C3 C4 C5 CPl CQn CR CQ CU) aspGrEq) := ⟨⟨f9, _, _, ok_group_eq F9 T0 I0 (PySem.W.mg_of X G a_C0) B, a9, i9, b9⟩⟩
  have N0 : NeM l.prog w K mg base 1 C0 (toSp K (caZ C0 C1 C2 C3 C4 C5 CPl CQn CR CQ CU) aspGrEq) := ⟨E0, hne0, hm0⟩
  have C_kept_statement : C8.Cal l.prog w K mg base 1 "kept_statement" (toSp K (caZ C0 C1 C2 C3 C4 C5 CPl CQn CR CQ CU) aspKept) [] := ⟨⟨_, _, _, [], ok_kept F10 B, m10, k10, b10, .nil⟩⟩
  have K_Statement : C8.Mak l.prog w K mg base 2 "Statement" C1 (toSpI K (caZ C0 C1 C2 C3 C4 C5 CPl CQn CR CQ CU) 1 aspStI) [] := ⟨⟨f11, _, _, [], ⟨mk_C1, a11, i11, kc_C1⟩, ok_st_init F11 T1 B C_kept_statement, PySem.W.mg_of X G a_C1, b11, .nil⟩⟩
  have C__products : C8.Cal l.prog w K mg base 4 "_products" (toSp K (caZ C0 C1 C2 C3 C4 C5 CPl CQn CR CQ CU) aspProducts) [] := ⟨⟨_, _, _, [], ok_products F12 T1 B M_product, m12, k12, b12, .nil⟩⟩
  have C_simulated : C8.Cal l.prog w K mg base 5 "simulated" (toSp K (caZ C0 C1 C2 C3 C4 C5 CPl CQn CR CQ CU) aspSim) [] := ⟨⟨_, _, _, [], ok_simulated F13 T1 B C__products M_product, m13, k13, b13, .nil⟩⟩
  have K_Claim : C8.Mak l.prog w K mg base 1 "Claim" C2 (toSpI K (caZ C0 C1 C2 C3 C4 C5 CPl CQn CR CQ CU) 2 aspClI) [] := ⟨⟨f14, _, _, [], ⟨mk_C2, a14, i14, kc_C2⟩, ok_cl_init F14 T2 B, PySem.W.mg_of X G a_C2, b14, .nil⟩⟩
  have C__has_form : C8.Cal l.prog w K mg base 1 "_has_form" (toSp K (caZ C0 C1 C2 C3 C4 C5 CPl CQn CR CQ CU) aspForm) [] := ⟨⟨_, _, _, [], ok_has_form F15 T1 T2 B, m15, k15, b15, .nil⟩⟩
  have RI := rec_fits (ca := (caZ C0 C1 C2 C3 C4 C5 CPl CQn CR CQ CU)) F16 m16 k16 b16 F17 m17 k17 b17 T0 T2 B C_simulated C__has_form
  have C_asking : C8.Cal l.prog w K mg base 4 "asking" (toSp K (caZ C0 C1 C2 C3 C4 C5 CPl CQn CR CQ CU) aspAsking) [] := ⟨⟨_, _, _, [], ok_asking F18 T0 K_Statement K_Claim, m18, k18, b18, .nil⟩⟩
  have K_Kind : C8.Mak l.prog w K mg base 1 "Kind" C3 (toSpI K (caZ C0 C1 C2 C3 C4 C5 CPl CQn CR CQ CU) 3 aspKdI) [] := ⟨⟨f19, _, _, [], ⟨mk_C3, a19, i19, kc_C3⟩, ok_kd_init F19 T3 B, PySem.W.mg_of X G a_C3, b19, .nil⟩⟩
  have E3 : EqM l.prog w K mg base 1 C3 (toSp K (caZ C0 C1 C2 C3 C4 C5 CPl CQn CR CQ CU) aspKdEq) := ⟨⟨f20, _, _, ok_kd_eq F20 T3 I3 (PySem.W.mg_of X G a_C3) B, a20, i20, b20⟩⟩
  have C_kept_policy : C8.Cal l.prog w K mg base 1 "kept_policy" (toSp K (caZ C0 C1 C2 C3 C4 C5 CPl CQn CR CQ CU) aspNo) [] := ⟨⟨_, _, ["condition"], [], no_fn, m21, k21, b21, .nil⟩⟩
  have K_Policy : C8.Mak l.prog w K mg base 2 "Policy" CPl (toSpI K (caZ C0 C1 C2 C3 C4 C5 CPl CQn CR CQ CU) 8 aspPolI) [] := ⟨⟨f22, _, _, [], ⟨mk_CPl, a22, i22, kc_CPl⟩, ok_pol_init F22 T8 B C_kept_policy, PySem.W.mg_of X G a_CPl, b22, .nil⟩⟩
  have EPl : EqM l.prog w K mg base 1 CPl (toSp K (caZ C0 C1 C2 C3 C4 C5 CPl CQn CR CQ CU) aspPoEq) := ⟨⟨f23, _, _, ok_pol_eq F23 T8 I8 (PySem.W.mg_of X G a_CPl) B, a23, i23, b23⟩⟩
  have K_Question : C8.Mak l.prog w K mg base 1 "Question" CQn (toSpI K (caZ C0 C1 C2 C3 C4 C5 CPl CQn CR CQ CU) 9 aspQuI) [] := ⟨⟨f24, _, _, [], ⟨mk_CQn, a24, i24, kc_CQn⟩, ok_qu_init F24 T9 B, PySem.W.mg_of X G a_CQn, b24, .nil⟩⟩
  have C__counts : C8.Cal l.prog w K mg base 1 "_counts" (toSp K (caZ C0 C1 C2 C3 C4 C5 CPl CQn CR CQ CU) aspCnt) [] := ⟨⟨_, _, _, [], ok_counts F25 , m25, k25, b25, .nil⟩⟩
  have M_counting : C8.Met l.prog w K mg base 2 C5 "counting" (toSp K (caZ C0 C1 C2 C3 C4 C5 CPl CQn CR CQ CU) aspCounting) [] := ⟨⟨f26, _, _, [], cls_C5, ⟨a26, i26, k26⟩, ok_counting F26 T5 B C__counts, b26, .nil⟩⟩
  have C__may_have : C8.Cal l.prog w K mg base 1 "_may_have" (toSp K (caZ C0 C1 C2 C3 C4 C5 CPl CQn CR CQ CU) aspMay) [] := ⟨⟨_, _, _, [], ok_may F42 T3 B, m42, k42, b42, .nil⟩⟩
  have XMR : XMk l.prog w K mg base "BadRequest" CR "what" := ⟨⟨_, _, _, oexR, a34, fn_ty i34, ok_x_BadRequest F34 oexR Rwh, b34, PySem.W.mg_of X G a_CR⟩⟩
  have XMU : XMk l.prog w K mg base "BadTurn" CU "what" := ⟨⟨_, _, _, oexU, a35, fn_ty i35, ok_x_BadTurn F35 oexU Uwh, b35, PySem.W.mg_of X G a_CU⟩⟩
  have XMQ : XMk l.prog w K mg base "BadQuestion" CQ "what" := ⟨⟨_, _, _, oexQ, a27, fn_ty i27, ok_x_BadQuestion F27 oexQ Qwh, b27, PySem.W.mg_of X G a_CQ⟩⟩
  have X_ck : CalX l.prog w K mg base 3 "_check_kind" (toSp2 K (caZ C0 C1 C2 C3 C4 C5 CPl CQn CR CQ CU) bspCk) := ⟨⟨_, _, _, ok_ck (ca := (caZ C0 C1 C2 C3 C4 C5 CPl CQn CR CQ CU)) F28 T0 T3 B gq XMQ, m28, k28, b28⟩⟩
  have X_ic : CalX l.prog w K mg base 4 "_issuers_of_card" (toSp2 K (caZ C0 C1 C2 C3 C4 C5 CPl CQn CR CQ CU) bspIc) := ⟨⟨_, _, _, ok_ic (ca := (caZ C0 C1 C2 C3 C4 C5 CPl CQn CR CQ CU)) F29 T0 T3 T5 B N0 E3 uq_kd XMQ, m29, k29, b29⟩⟩
  have X_cr : CalX l.prog w K mg base 4 "_counting_rows" (toSp2 K (caZ C0 C1 C2 C3 C4 C5 CPl CQn CR CQ CU) bspCr) := ⟨⟨_, _, _, ok_cr (ca := (caZ C0 C1 C2 C3 C4 C5 CPl CQn CR CQ CU)) F30 T3 T5 B gq M_counting XMQ, m30, k30, b30⟩⟩
  have X_qo : CalX l.prog w K mg base 6 "question_of" (toSp2 K (caZ C0 C1 C2 C3 C4 C5 CPl CQn CR CQ CU) bspQo) := ⟨⟨_, _, _, ok_qo (ca := (caZ C0 C1 C2 C3 C4 C5 CPl CQn CR CQ CU)) F31 T3 T8 B X_ck X_ic X_cr K_Question, m31, k31, b31⟩⟩
  have MX_Request : MakX l.prog w K mg base 1 "Request" C4 (toSpI2 K (caZ C0 C1 C2 C3 C4 C5 CPl CQn CR CQ CU) 4 bspReqI) := ⟨⟨_, _, _, ⟨mk_C4, a32, i32, kc_C4⟩, ok_req_init (ca := (caZ C0 C1 C2 C3 C4 C5 CPl CQn CR CQ CU)) F32 T4 gi, PySem.W.mg_of X G a_C4, b32⟩⟩
  have MX_Issuer : MakX l.prog w K mg base 1 "Issuer" C5 (toSpI2 K (caZ C0 C1 C2 C3 C4 C5 CPl CQn CR CQ CU) 5 bspIssI) := ⟨⟨_, _, _, ⟨mk_C5, a33, i33, kc_C5⟩, ok_iss_init (ca := (caZ C0 C1 C2 C3 C4 C5 CPl CQn CR CQ CU)) F33 T5 B, PySem.W.mg_of X G a_C5, b33⟩⟩
  have K_Issuer : C8.Mak l.prog w K mg base 1 "Issuer" C5 (toSpI K (caZ C0 C1 C2 C3 C4 C5 CPl CQn CR CQ CU) 5 aspIssI) [] := ⟨⟨_, _, _, [], ⟨mk_C5, a33, i33, kc_C5⟩, ok_iss_init0 (ca := (caZ C0 C1 C2 C3 C4 C5 CPl CQn CR CQ CU)) F33 T5 B, PySem.W.mg_of X G a_C5, b33, .nil⟩⟩
  have MX__granted_kind : MetX l.prog w K mg base 3 C5 "_granted_kind" (toSp2 K (caZ C0 C1 C2 C3 C4 C5 CPl CQn CR CQ CU) bspGk) := ⟨⟨_, _, _, cls_C5, ⟨a36, i36, k36⟩, ok_gk (ca := (caZ C0 C1 C2 C3 C4 C5 CPl CQn CR CQ CU)) F36 T0 T3 T5 B XMR, b36⟩⟩
  have MX__request_due : MetX l.prog w K mg base 3 C5 "_request_due" (toSp2 K (caZ C0 C1 C2 C3 C4 C5 CPl CQn CR CQ CU) bspDue) := ⟨⟨_, _, _, cls_C5, ⟨a37, i37, k37⟩, ok_due (ca := (caZ C0 C1 C2 C3 C4 C5 CPl CQn CR CQ CU)) F37 T4 T5 B XMR XMU, b37⟩⟩
  have M_ask : C8.Met l.prog w K mg base 4 C5 "ask" (toSp2 K (caZ C0 C1 C2 C3 C4 C5 CPl CQn CR CQ CU) (bspZ bspAsk)) [] := ⟨⟨_, _, _, [], cls_C5, ⟨a38, i38, k38⟩, fn_x0 (ok_ask (ca := (caZ C0 C1 C2 C3 C4 C5 CPl CQn CR CQ CU)) F38 T0 T5 B XMR MX__granted_kind MX_Request M_is_element) sp2_z, b38, .nil⟩⟩
  have M_challenge : C8.Met l.prog w K mg base 4 C5 "challenge" (toSp2 K (caZ C0 C1 C2 C3 C4 C5 CPl CQn CR CQ CU) (bspZ bspChal)) [] := ⟨⟨_, _, _, [], cls_C5, ⟨a39, i39, k39⟩, fn_x0 (ok_chal (ca := (caZ C0 C1 C2 C3 C4 C5 CPl CQn CR CQ CU)) F39 T0 T4 T5 B gi XMR MX__request_due) sp2_z, b39, .nil⟩⟩
  have M_grant : C8.Met l.prog w K mg base 9 C5 "grant" (toSp2 K (caZ C0 C1 C2 C3 C4 C5 CPl CQn CR CQ CU) (bspZ bspGrant)) [] := ⟨⟨_, _, _, [], cls_C5, ⟨a40, i40, k40⟩, fn_x0 (ok_grant (ca := (caZ C0 C1 C2 C3 C4 C5 CPl CQn CR CQ CU)) F40 T0 T3 T4 T5 B gi XMR MX__request_due C__may_have C_asking (RI 1).1 M_product) sp2_z, b40, .nil⟩⟩
  have M_revoke : C8.Met l.prog w K mg base 3 C5 "revoke" (toSp2 K (caZ C0 C1 C2 C3 C4 C5 CPl CQn CR CQ CU) (bspZ bspRevoke)) [] := ⟨⟨_, _, _, [], cls_C5, ⟨a41, i41, k41⟩, fn_x0 (ok_revoke (ca := (caZ C0 C1 C2 C3 C4 C5 CPl CQn CR CQ CU)) F41 T5 B XMR) sp2_z, b41, .nil⟩⟩
  have C__law_pool : C8.Cal l.prog w K mg base 1 "_law_pool" (spPool K) [] := ⟨⟨_, _, _, [], ok_law_pool F43 B, m43, k43, b43, .nil⟩⟩
  have C__law_draw : C8.Cal l.prog w K mg base 1 "_law_draw" spDrawP [] := ⟨⟨_, _, _, [], ok_law_drawP F44 B, m44, k44, b44, .nil⟩⟩
  have D_draw : C8.Cal l.prog w K mg base 1 "_law_draw" (toSp K (caZ C0 C1 C2 C3 C4 C5 CPl CQn CR CQ CU) aspDraw) [] := cal_weak sp_draw C__law_draw
  have C__law_same : C8.Cal l.prog w K mg base 14 "_law_same" (toSp K (caZ C0 C1 C2 C3 C4 C5 CPl CQn CR CQ CU) (aspSame 14)) [] := ⟨⟨_, _, _, [], ok_law_same F45 B m45 b45 14, m45, k45, b45, .nil⟩⟩
  have WS : CalW l.prog w K mg base 1 "_law_same" (toSp K (caZ C0 C1 C2 C3 C4 C5 CPl CQn CR CQ CU) aspSameW) := ⟨⟨_, _, _, ok_law_sameW F45 B, m45, k45, b45⟩⟩
  have C__law_power : C8.Cal l.prog w K mg base 1 "_law_power" spLPower [] := ⟨⟨_, _, _, [], ok_law_power F46 B, m46, k46, b46, .nil⟩⟩
  have D_lpower : C8.Cal l.prog w K mg base 1 "_law_power" (toSp K (caZ C0 C1 C2 C3 C4 C5 CPl CQn CR CQ CU) aspLPower) [] := cal_weak sp_lpower C__law_power
  have C__law_raised : C8.Cal l.prog w K mg base 2 "_law_raised" (toSp K (caZ C0 C1 C2 C3 C4 C5 CPl CQn CR CQ CU) aspLRaised) [] := ⟨⟨_, _, _, [], ok_law_raised F47 B D_lpower, m47, k47, b47, .nil⟩⟩
  have C__law_product : C8.Cal l.prog w K mg base 3 "_law_product" (toSp K (caZ C0 C1 C2 C3 C4 C5 CPl CQn CR CQ CU) aspLProduct) [] := ⟨⟨_, _, _, [], ok_law_product F48 B C__law_raised, m48, k48, b48, .nil⟩⟩
  have C__law_commit : C8.Cal l.prog w K mg base 4 "_law_commit" (toSp K (caZ C0 C1 C2 C3 C4 C5 CPl CQn CR CQ CU) aspLCommit) [] := ⟨⟨_, _, _, [], ok_law_commit F49 B C__law_product, m49, k49, b49, .nil⟩⟩
  have C__law_group : C8.Cal l.prog w K mg base 2 "_law_group" (toSp K (caZ C0 C1 C2 C3 C4 C5 CPl CQn CR CQ CU) aspLGroup) [] := ⟨⟨_, _, _, [], ok_law_group F50 B D_draw D_lpower, m50, k50, b50, .nil⟩⟩
  have C__law_numbers : C8.Cal l.prog w K mg base 2 "_law_numbers" (toSp K (caZ C0 C1 C2 C3 C4 C5 CPl CQn CR CQ CU) aspLNumbers) [] := ⟨⟨_, _, _, [], ok_law_numbers F51 B D_draw, m51, k51, b51, .nil⟩⟩
  have C__law_kinds : C8.Cal l.prog w K mg base 2 "_law_kinds" (toSp K (caZ C0 C1 C2 C3 C4 C5 CPl CQn CR CQ CU) aspLKinds) [] := ⟨⟨_, _, _, [], ok_law_kinds F52 B D_draw, m52, k52, b52, .nil⟩⟩
  have C__law_granted : C8.Cal l.prog w K mg base 15 "_law_granted" (toSp2 K (caZ C0 C1 C2 C3 C4 C5 CPl CQn CR CQ CU) bspGt) [] := ⟨⟨_, _, _, [], ok_law_granted F53 T5 B D_draw C__law_numbers C__law_commit M_ask M_challenge M_grant, m53, k53, b53, .nil⟩⟩
  have C__law_issuer : C8.Cal l.prog w K mg base 16 "_law_issuer" (toSp K (caZ C0 C1 C2 C3 C4 C5 CPl CQn CR CQ CU) aspLIss) [] := ⟨⟨_, _, _, [], ok_law_issuer F54 T5 B D_draw C__law_numbers C__law_granted K_Kind K_Group MX_Issuer M_revoke, m54, k54, b54, .nil⟩⟩
  have C__law_found : C8.Cal l.prog w K mg base 4 "_law_found" (toSp K (caZ C0 C1 C2 C3 C4 C5 CPl CQn CR CQ CU) aspLFound) [] := ⟨⟨_, _, _, [], ok_law_found F55 T5 B, m55, k55, b55, .nil⟩⟩
  exact ok_law F56 B T0 T3 T5 T9 er C__law_pool E0 EPl XE XF kit_self (kit_cons (kit_no iG yG zG zQ) (kit_cons (kit_no iO yO zO zQ) (kit_cons (kit_no iR yR zR zQ) (kit_cons (kit_no iT yT zT zQ) (kit_cons (kit_no iU yU zU zQ) rfl))))) XK D_draw C__law_group C__law_kinds C__law_same WS C__law_issuer C__law_found K_Kind K_Issuer K_Policy X_qo K_Group
theorem walk {l : PySem.W.OpenLaw} {q : Program} {loose : List Str} {XP : (Str → Option Value) → Heap → Prop} {YP : World → Heap → Prop} {d : DefRec} {K : Params → PySem.W.Frag} (hn : l.most = some 63) (hdf : d.params.defaults = [])
    (hY : ∀ (w : World) (h : Heap), YP w h → (K w.params).In h)
    (F : ∀ (w : World) (mg : Str → Option Value) (fa : Addr) (h : Heap), (K w.params).In h → h.Ns mainGlobals mg → mg d.name = some (.ref fa) →
      ∃ fd : FuncData, (∀ (s : Shared) (u : Value), BindsTo s fd ⟨[u], []⟩ [("script", u)]) ∧ ∀ base : Heap, (K w.params).In base → base.Ns mainGlobals mg → FnOk l.prog w (K w.params) mg base CX0 24 fa fd ["script"] (spLaw (K w.params))) :
    PySem.W.WalkO q loose XP YP l.row.toRowW d [] (fun f vs => PySem.call f vs) :=
  L2.walk_of (n := 63) (k := 24) (x := "script") (CX := fun _ => CX0) (sp := fun w => spLaw (K w.params)) hn (by decide) hdf ⟨rfl, by decide, by decide⟩ hY F (fun _ _ a ns hl _ hS => ⟨a, ns, rfl, hS, fun _ => rfl⟩) fun _ _ _ _ _ z => z
end My
open PySem PySem.W PyProof.Rows
set_option maxRecDepth 100000 in
set_option maxHeartbeats 0 in
theorem PySem.Challenge.cw_vouchdoor_k32_questions_of_doors_holds : PySem.Challenge.rw_vouchdoor_k32_questions_of_doors.Holds := by
  w_on; o_law; k_head; (case hw => w_witness2)
  k_fill
  refine My.walk (l := PySem.Challenge.rw_vouchdoor_k32_questions_of_doors) rfl rfl (fun w h Y => PySem.W.kIn_of Y) ?F
  case F =>
    intro w mg fa h KX G hmg
    refine' My.all_mk KX G hmg ?a_C0 ?pg_C0 ?hd_C0 ?po_C0 ?sa_C0 ?mk_C0 ?kc_C0 ?nC0p ?nC0q ?nC0bases ?a_C1 ?pg_C1 ?hd_C1 ?po_C1 ?sa_C1 ?mk_C1 ?kc_C1 ?nC1unknowns ?nC1equations ?a_C2 ?pg_C2 ?hd_C2 ?po_C2 ?sa_C2 ?mk_C2 ?kc_C2 ?nC2statement ?nC2choices ?a_C3 ?pg_C3 ?hd_C3 ?po_C3 ?sa_C3 ?mk_C3 ?kc_C3 ?nC3name ?nC3fields ?a_C4 ?pg_C4 ?hd_C4 ?po_C4 ?sa_C4 ?mk_C4 ?kc_C4 ?nC4kind ?nC4element ?nC4first ?nC4drawn ?nC4state ?a_C5 ?pg_C5 ?hd_C5 ?po_C5 ?sa_C5 ?mk_C5 ?kc_C5 ?nC5name ?nC5group ?nC5kinds ?nC5book ?nC5_requests ?a_CPl ?pg_CPl ?hd_CPl ?po_CPl ?sa_CPl ?mk_CPl ?kc_CPl ?nCPlcards ?nCPlconditions ?a_CQn ?pg_CQn ?hd_CQn ?po_CQn ?sa_CQn ?mk_CQn ?kc_CQn ?nCQngroup ?nCQnkinds ?nCQnpolicy ?nCQnrows ?ha3 ?hm3 ?ha8 ?hm8 ?ha0 ?hne0 ?hm0 ?gS ?gL ?gF ?gM ?gA ?gC ?gG ?gR ?gQ1 ?gQ2 ?hn1 ?ht1 ?a_CR ?a_CU ?Rlk ?Rrf ?Rsa ?Rty ?Rkc ?Rwh ?Rbe ?Ulk ?Urf ?Usa ?Uty ?Ukc ?Uwh ?Ube ?a_CQ ?a_CV ?a_CG ?a_CO ?a_CTx ?Qlk ?Qrf ?Qsa ?Qty ?Qkc ?Qwh ?Qbe ?Qga ?Qgg ?Qhd ?Qha ?Qhm ?bV ?iV ?yV ?zV ?zQ ?iG ?yG ?zG ?iO ?yO ?zO ?iR ?yR ?zR ?iT ?yT ?zT ?iU ?yU ?zU ?a0 ?l0 ?c0 ?k0 ?a1 ?l1 ?c1 ?k1 ?a2 ?l2 ?c2 ?k2 ?a3 ?l3 ?c3 ?k3 ?a4 ?l4 ?c4 ?k4 ?a5 ?i5 ?l5 ?c5 ?k5 ?a6 ?i6 ?l6 ?c6 ?k6 ?a7 ?i7 ?l7 ?c7 ?k7 ?a8 ?i8 ?l8 ?c8 ?k8 ?a9 ?i9 ?l9 ?c9 ?k9 ?a10 ?l10 ?c10 ?k10 ?a11 ?i11 ?l11 ?c11 ?k11 ?a12 ?l12 ?c12 ?k12 ?a13 ?l13 ?c13 ?k13 ?a14 ?i14 ?l14 ?c14 ?k14 ?a15 ?l15 ?c15 ?k15 ?a16 ?l16 ?c16 ?k16 ?a17 ?l17 ?c17 ?k17 ?a18 ?l18 ?c18 ?k18 ?a19 ?i19 ?l19 ?c19 ?k19 ?a20 ?i20 ?l20 ?c20 ?k20 ?a21 ?l21 ?c21 ?k21 ?a22 ?i22 ?l22 ?c22 ?k22 ?a23 ?i23 ?l23 ?c23 ?k23 ?a24 ?i24 ?l24 ?c24 ?k24 ?a25 ?l25 ?c25 ?k25 ?a26 ?i26 ?l26 ?c26 ?k26 ?a27 ?i27 ?l27 ?c27 ?k27 ?a28 ?l28 ?c28 ?k28 ?a29 ?l29 ?c29 ?k29 ?a30 ?l30 ?c30 ?k30 ?a31 ?l31 ?c31 ?k31 ?a32 ?i32 ?l32 ?c32 ?k32 ?a33 ?i33 ?l33 ?c33 ?k33 ?a34 ?i34 ?l34 ?c34 ?k34 ?a35 ?i35 ?l35 ?c35 ?k35 ?a36 ?i36 ?l36 ?c36 ?k36 ?a37 ?i37 ?l37 ?c37 ?k37 ?a38 ?i38 ?l38 ?c38 ?k38 ?a39 ?i39 ?l39 ?c39 ?k39 ?a40 ?i40 ?l40 ?c40 ?k40 ?a41 ?i41 ?l41 ?c41 ?k41 ?a42 ?l42 ?c42 ?k42 ?a43 ?l43 ?c43 ?k43 ?a44 ?l44 ?c44 ?k44 ?a45 ?l45 ?c45 ?k45 ?a46 ?l46 ?c46 ?k46 ?a47 ?l47 ?c47 ?k47 ?a48 ?l48 ?c48 ?k48 ?a49 ?l49 ?c49 ?k49 ?a50 ?l50 ?c50 ?k50 ?a51 ?l51 ?c51 ?k51 ?a52 ?l52 ?c52 ?k52 ?a53 ?l53 ?c53 ?k53 ?a54 ?l54 ?c54 ?k54 ?a55 ?l55 ?c55 ?k55 ?a56 ?l56 ?c56 ?k56 ?z_isinstance ?z_len ?z_sum ?z_max ?z_min ?z_abs ?z_any ?z_all ?z_sorted ?z_int ?z_bool ?z_str ?z_list ?z_tuple ?z_dict ?z_range ?z_enumerate ?z_zip
    (case a_C0 => k_is)
    (case pg_C0 => k_is)
    (case hd_C0 => k_is)
    (case po_C0 => k_is)
    (case sa_C0 => k_is)
    (case mk_C0 => k_is)
    (case kc_C0 => k_is)
    (case nC0p => k_is)
    (case nC0q => k_is)
    (case nC0bases => k_is)
    (case a_C1 => k_is)
    (case pg_C1 => k_is)
    (case hd_C1 => k_is)
    (case po_C1 => k_is)
    (case sa_C1 => k_is)
    (case mk_C1 => k_is)
    (case kc_C1 => k_is)
    (case nC1unknowns => k_is)
    (case nC1equations => k_is)
    (case a_C2 => k_is)
    (case pg_C2 => k_is)
    (case hd_C2 => k_is)
    (case po_C2 => k_is)
    (case sa_C2 => k_is)
    (case mk_C2 => k_is)
    (case kc_C2 => k_is)
    (case nC2statement => k_is)
    (case nC2choices => k_is)
    (case a_C3 => k_is)
    (case pg_C3 => k_is)
    (case hd_C3 => k_is)
    (case po_C3 => k_is)
    (case sa_C3 => k_is)
    (case mk_C3 => k_is)
    (case kc_C3 => k_is)
    (case nC3name => k_is)
    (case nC3fields => k_is)
    (case a_C4 => k_is)
    (case pg_C4 => k_is)
    (case hd_C4 => k_is)
    (case po_C4 => k_is)
    (case sa_C4 => k_is)
    (case mk_C4 => k_is)
    (case kc_C4 => k_is)
    (case nC4kind => k_is)
    (case nC4element => k_is)
    (case nC4first => k_is)
    (case nC4drawn => k_is)
    (case nC4state => k_is)
    (case a_C5 => k_is)
    (case pg_C5 => k_is)
    (case hd_C5 => k_is)
    (case po_C5 => k_is)
    (case sa_C5 => k_is)
    (case mk_C5 => k_is)
    (case kc_C5 => k_is)
    (case nC5name => k_is)
    (case nC5group => k_is)
    (case nC5kinds => k_is)
    (case nC5book => k_is)
    (case nC5_requests => k_is)
    (case a_CPl => k_is)
    (case pg_CPl => k_is)
    (case hd_CPl => k_is)
    (case po_CPl => k_is)
    (case sa_CPl => k_is)
    (case mk_CPl => k_is)
    (case kc_CPl => k_is)
    (case nCPlcards => k_is)
    (case nCPlconditions => k_is)
    (case a_CQn => k_is)
    (case pg_CQn => k_is)
    (case hd_CQn => k_is)
    (case po_CQn => k_is)
    (case sa_CQn => k_is)
    (case mk_CQn => k_is)
    (case kc_CQn => k_is)
    (case nCQngroup => k_is)
    (case nCQnkinds => k_is)
    (case nCQnpolicy => k_is)
    (case nCQnrows => k_is)
    (case ha3 => k_is)
    (case hm3 => k_is)
    (case ha8 => k_is)
    (case hm8 => k_is)
    (case ha0 => k_is)
    (case hne0 => k_is)
    (case hm0 => k_is)
    (case gS => k_is)
    (case gL => k_is)
    (case gF => k_is)
    (case gM => k_is)
    (case gA => k_is)
    (case gC => k_is)
    (case gG => k_is)
    (case gR => k_is)
    (case gQ1 => k_is)
    (case gQ2 => k_is)
    (case hn1 => k_is)
    (case ht1 => k_is)
    (case a_CR => k_is)
    (case a_CU => k_is)
    (case Rlk => k_is)
    (case Rrf => rfl)
    (case Rsa => k_is)
    (case Rty => k_is)
    (case Rkc => k_is)
    (case Rwh => k_is)
    (case Rbe => k_is)
    (case Ulk => k_is)
    (case Urf => rfl)
    (case Usa => k_is)
    (case Uty => k_is)
    (case Ukc => k_is)
    (case Uwh => k_is)
    (case Ube => k_is)
    (case a_CQ => k_is)
    (case a_CV => k_is)
    (case a_CG => k_is)
    (case a_CO => k_is)
    (case a_CTx => k_is)
    (case Qlk => k_is)
    (case Qrf => rfl)
    (case Qsa => k_is)
    (case Qty => k_is)
    (case Qkc => k_is)
    (case Qwh => k_is)
    (case Qbe => k_is)
    (case Qga => k_is)
    (case Qgg => k_is)
    (case Qhd => k_is)
    (case Qha => k_is)
    (case Qhm => k_is)
    (case bV => k_is)
    (case iV => k_is)
    (case yV => k_is)
    (case zV => k_is)
    (case zQ => first | rfl | k_is)
    (case iG => k_is)
    (case yG => k_is)
    (case zG => k_is)
    (case iO => k_is)
    (case yO => k_is)
    (case zO => k_is)
    (case iR => k_is)
    (case yR => k_is)
    (case zR => k_is)
    (case iT => k_is)
    (case yT => k_is)
    (case zT => k_is)
    (case iU => k_is)
    (case yU => k_is)
    (case zU => k_is)
    (case a0 => k_is)
    (case l0 => k_is)
    (case c0 => k_is)
    (case k0 => k_is)
    (case a1 => k_is)
    (case l1 => k_is)
    (case c1 => k_is)
    (case k1 => k_is)
    (case a2 => k_is)
    (case l2 => k_is)
    (case c2 => k_is)
    (case k2 => k_is)
    (case a3 => k_is)
    (case l3 => k_is)
    (case c3 => k_is)
    (case k3 => k_is)
    (case a4 => k_is)
    (case l4 => k_is)
    (case c4 => k_is)
    (case k4 => k_is)
    (case a5 => k_is)
    (case i5 => k_is)
    (case l5 => k_is)
    (case c5 => k_is)
    (case k5 => k_is)
    (case a6 => k_is)
    (case i6 => k_is)
    (case l6 => k_is)
    (case c6 => k_is)
    (case k6 => k_is)
    (case a7 => k_is)
    (case i7 => k_is)
    (case l7 => k_is)
    (case c7 => k_is)
    (case k7 => k_is)
    (case a8 => k_is)
    (case i8 => k_is)
    (case l8 => k_is)
    (case c8 => k_is)
    (case k8 => k_is)
    (case a9 => k_is)
    (case i9 => k_is)
    (case l9 => k_is)
    (case c9 => k_is)
    (case k9 => k_is)
    (case a10 => k_is)
    (case l10 => k_is)
    (case c10 => k_is)
    (case k10 => k_is)
    (case a11 => k_is)
    (case i11 => k_is)
    (case l11 => k_is)
    (case c11 => k_is)
    (case k11 => k_is)
    (case a12 => k_is)
    (case l12 => k_is)
    (case c12 => k_is)
    (case k12 => k_is)
    (case a13 => k_is)
    (case l13 => k_is)
    (case c13 => k_is)
    (case k13 => k_is)
    (case a14 => k_is)
    (case i14 => k_is)
    (case l14 => k_is)
    (case c14 => k_is)
    (case k14 => k_is)
    (case a15 => k_is)
    (case l15 => k_is)
    (case c15 => k_is)
    (case k15 => k_is)
    (case a16 => k_is)
    (case l16 => k_is)
    (case c16 => k_is)
    (case k16 => k_is)
    (case a17 => k_is)
    (case l17 => k_is)
    (case c17 => k_is)
    (case k17 => k_is)
    (case a18 => k_is)
    (case l18 => k_is)
    (case c18 => k_is)
    (case k18 => k_is)
    (case a19 => k_is)
    (case i19 => k_is)
    (case l19 => k_is)
    (case c19 => k_is)
    (case k19 => k_is)
    (case a20 => k_is)
    (case i20 => k_is)
    (case l20 => k_is)
    (case c20 => k_is)
    (case k20 => k_is)
    (case a21 => k_is)
    (case l21 => k_is)
    (case c21 => k_is)
    (case k21 => k_is)
    (case a22 => k_is)
    (case i22 => k_is)
    (case l22 => k_is)
    (case c22 => k_is)
    (case k22 => k_is)
    (case a23 => k_is)
    (case i23 => k_is)
    (case l23 => k_is)
    (case c23 => k_is)
    (case k23 => k_is)
    (case a24 => k_is)
    (case i24 => k_is)
    (case l24 => k_is)
    (case c24 => k_is)
    (case k24 => k_is)
    (case a25 => k_is)
    (case l25 => k_is)
    (case c25 => k_is)
    (case k25 => k_is)
    (case a26 => k_is)
    (case i26 => k_is)
    (case l26 => k_is)
    (case c26 => k_is)
    (case k26 => k_is)
    (case a27 => k_is)
    (case i27 => k_is)
    (case l27 => k_is)
    (case c27 => k_is)
    (case k27 => k_is)
    (case a28 => k_is)
    (case l28 => k_is)
    (case c28 => k_is)
    (case k28 => k_is)
    (case a29 => k_is)
    (case l29 => k_is)
    (case c29 => k_is)
    (case k29 => k_is)
    (case a30 => k_is)
    (case l30 => k_is)
    (case c30 => k_is)
    (case k30 => k_is)
    (case a31 => k_is)
    (case l31 => k_is)
    (case c31 => k_is)
    (case k31 => k_is)
    (case a32 => k_is)
    (case i32 => k_is)
    (case l32 => k_is)
    (case c32 => k_is)
    (case k32 => k_is)
    (case a33 => k_is)
    (case i33 => k_is)
    (case l33 => k_is)
    (case c33 => k_is)
    (case k33 => k_is)
    (case a34 => k_is)
    (case i34 => k_is)
    (case l34 => k_is)
    (case c34 => k_is)
    (case k34 => k_is)
    (case a35 => k_is)
    (case i35 => k_is)
    (case l35 => k_is)
    (case c35 => k_is)
    (case k35 => k_is)
    (case a36 => k_is)
    (case i36 => k_is)
    (case l36 => k_is)
    (case c36 => k_is)
    (case k36 => k_is)
    (case a37 => k_is)
    (case i37 => k_is)
    (case l37 => k_is)
    (case c37 => k_is)
    (case k37 => k_is)
    (case a38 => k_is)
    (case i38 => k_is)
    (case l38 => k_is)
    (case c38 => k_is)
    (case k38 => k_is)
    (case a39 => k_is)
    (case i39 => k_is)
    (case l39 => k_is)
    (case c39 => k_is)
    (case k39 => k_is)
    (case a40 => k_is)
    (case i40 => k_is)
    (case l40 => k_is)
    (case c40 => k_is)
    (case k40 => k_is)
    (case a41 => k_is)
    (case i41 => k_is)
    (case l41 => k_is)
    (case c41 => k_is)
    (case k41 => k_is)
    (case a42 => k_is)
    (case l42 => k_is)
    (case c42 => k_is)
    (case k42 => k_is)
    (case a43 => k_is)
    (case l43 => k_is)
    (case c43 => k_is)
    (case k43 => k_is)
    (case a44 => k_is)
    (case l44 => k_is)
    (case c44 => k_is)
    (case k44 => k_is)
    (case a45 => k_is)
    (case l45 => k_is)
    (case c45 => k_is)
    (case k45 => k_is)
    (case a46 => k_is)
    (case l46 => k_is)
    (case c46 => k_is)
    (case k46 => k_is)
    (case a47 => k_is)
    (case l47 => k_is)
    (case c47 => k_is)
    (case k47 => k_is)
    (case a48 => k_is)
    (case l48 => k_is)
    (case c48 => k_is)
    (case k48 => k_is)
    (case a49 => k_is)
    (case l49 => k_is)
    (case c49 => k_is)
    (case k49 => k_is)
    (case a50 => k_is)
    (case l50 => k_is)
    (case c50 => k_is)
    (case k50 => k_is)
    (case a51 => k_is)
    (case l51 => k_is)
    (case c51 => k_is)
    (case k51 => k_is)
    (case a52 => k_is)
    (case l52 => k_is)
    (case c52 => k_is)
    (case k52 => k_is)
    (case a53 => k_is)
    (case l53 => k_is)
    (case c53 => k_is)
    (case k53 => k_is)
    (case a54 => k_is)
    (case l54 => k_is)
    (case c54 => k_is)
    (case k54 => k_is)
    (case a55 => k_is)
    (case l55 => k_is)
    (case c55 => k_is)
    (case k55 => k_is)
    (case a56 => k_is)
    (case l56 => k_is)
    (case c56 => k_is)
    (case k56 => k_is)
    (case z_isinstance => k_is)
    (case z_len => k_is)
    (case z_sum => k_is)
    (case z_max => k_is)
    (case z_min => k_is)
    (case z_abs => k_is)
    (case z_any => k_is)
    (case z_all => k_is)
    (case z_sorted => k_is)
    (case z_int => k_is)
    (case z_bool => k_is)
    (case z_str => k_is)
    (case z_list => k_is)
    (case z_tuple => k_is)
    (case z_dict => k_is)
    (case z_range => k_is)
    (case z_enumerate => k_is)
    (case z_zip => k_is)
