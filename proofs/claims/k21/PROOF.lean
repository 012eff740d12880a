import PyProof.Rows.All
import Wide.All
import OpenK.AllK
import Wide.FinOn
import HandS.Zip
import HandS.Style
import HandS.ListItems
import KE.KDictZip
import KE.GoesMore
import KE.KIsAll
import KE.KTryMore
import HandS.ForMost
import HandS.ForExc
import HandS.ExcInit
import HandS.ExcIs
import HandS.ExcField
import HandS.IsInst
import HandS.TupAny
import HandS.Walk
import HandS.NoneIn
import HandS.Evl
import HandS.Deep
import PySem.Challenge.RW_laidforall_k21_first_bad_edge
set_option Elab.async false
set_option linter.all false
set_option maxRecDepth 100000
set_option maxHeartbeats 2000000
namespace K21
open PySem PySem.Spec PyProof.Rows L2 RZ
/-! ### zip of two tuples, the pair given out before still held -/
section
variable {P : Program} {w : World} {A : Around} {E : Value → Shared → Prop} {s : Shared}
theorem zh_item {z TI TO T i1 i2 l1 l2 : Addr} {f : Bool} {oT : Obj} {j1 j2 : Nat} {as bs : Array Value} {x y : Value} {Q : Value → Shared → Prop} (D : ZipApart z TI TO i1 i2 l1 l2) (gz : IsZipHeld s.heap z TI TO T f) (gT : s.heap.get? T = some oT) (gTI : IsPair s.heap TI (.ref i1) (.ref i2))
    (g1 : s.heap.IsTupleIter i1 l1 j1) (g2 : s.heap.IsTupleIter i2 l2 j2) (t1 : s.heap.IsTuple l1 as) (t2 : s.heap.IsTuple l2 bs) (ex : as[j1]? = some x) (ey : bs[j2]? = some y)
    (q : ∀ h', IsZipHeld h' z TI TO T true → h'.IsTupleIter i1 l1 (j1 + 1) → h'.IsTupleIter i2 l2 (j2 + 1) → IsPair h' s.heap.objs.size x y → h'.objs.size = s.heap.objs.size + 1 → (∀ c o, c ≠ z → c ≠ i1 → c ≠ i2 → s.heap.get? c = some o → h'.get? c = some o) → Q (.ref s.heap.objs.size) { s with heap := h' }) :
    wpAny (model P w) A (Builtin.«zip.__next__» ⟨[.ref z], []⟩) (fun fin s' => ∃ v, fin = .done (.ret v) ∧ Q v s') E s := by
  show wpAny _ _ (field (.ref z) 2 >>= _) _ _ _; refine wpAny_bind (wpAny_field gz rfl (x := .bool false) rfl ?_)
  show wpAny _ _ (field (.ref z) 3 >>= _) _ _ _; refine wpAny_bind (wpAny_field gz rfl (x := .ref TI) rfl ?_)
  refine wpAny_bind (wpAny_seqItems gTI rfl ?_)
  show wpAny _ _ (Builtin.SmallTypes.ownedTupleIsFree (.ref z) >>= _) _ _ _; refine wpAny_bind (wpAny_tupleHeld_zip gz gT fun k₁ gz₁ gs₁ => ?_)
  simp only [Bool.false_eq_true, if_false]; refine wpAny_bind ?_; rw [← Array.forIn_toList]; simp only [List.forIn_cons, List.forIn_nil]
  refine wpAny_bind (wpAny_bind (wpAny_holding ?_))
  show wpAny _ _ (Builtin.SmallTypes.nextOf (.ref i1) >>= _) _ _ _; refine wpAny_bind (nextOf_tuple_item (s := { s with heap := k₁ }) (g1.extBut gs₁.extBut D.i1z) (t1.extBut gs₁.extBut D.l1z) ex fun k₂ g1₂ gs₂ => wpAny_pure ?_)
  refine wpAny_pure ?_; refine wpAny_bind (wpAny_bind (wpAny_holding ?_))
  show wpAny _ _ (Builtin.SmallTypes.nextOf (.ref i2) >>= _) _ _ _; refine wpAny_bind (nextOf_tuple_item (s := { s with heap := k₂ }) ((g2.extBut gs₁.extBut D.i2z).extBut gs₂.extBut D.i12.symm) ((t2.extBut gs₁.extBut D.l2z).extBut gs₂.extBut D.l2i1) ey fun k₃ g2₃ gs₃ => wpAny_pure ?_)
  refine wpAny_pure (wpAny_pure ?_); show wpAny _ _ (newTuple [x, y] >>= _) _ _ _; refine wpAny_bind (wpAny_newTuple ?_)
  have esz : k₃.objs.size = s.heap.objs.size := by rw [gs₃.1, gs₂.1, gs₁.1]
  have gz₃ : IsZipHeld k₃ z TI TO T true := gs₃.extBut _ _ D.i2z.symm (gs₂.extBut _ _ D.i1z.symm gz₁)
  have kk : ∀ c o, c ≠ z → c ≠ i1 → c ≠ i2 → s.heap.get? c = some o → k₃.get? c = some o := fun c o c1 c2 c3 e => gs₃.extBut _ _ c3 (gs₂.extBut _ _ c2 (gs₁.extBut _ _ c1 e))
  have g1₃ : k₃.IsTupleIter i1 l1 (j1 + 1) := g1₂.extBut gs₃.extBut D.i12
  refine wpAny_pure ⟨_, rfl, ?_⟩; show Q (.ref k₃.objs.size) _
  have gp : IsPair (k₃.push { cls := .type "tuple", data := .seq #[x, y] }) k₃.objs.size x y := Heap.get?_push_size _ rfl
  have ez : (k₃.push { cls := .type "tuple", data := .seq #[x, y] }).objs.size = k₃.objs.size + 1 := Heap.size_push ..
  rw [esz] at gp ez ⊢
  exact q _ (Heap.get?_push_of_some _ gz₃) (g1₃.at fun o e => Heap.get?_push_of_some _ e) (g2₃.at fun o e => Heap.get?_push_of_some _ e) gp ez fun c o c1 c2 c3 e => Heap.get?_push_of_some _ (kk c o c1 c2 c3 e)
theorem zh_end {z TI TO T i1 i2 l1 l2 : Addr} {f : Bool} {oT : Obj} {j1 j2 : Nat} {as bs : Array Value} {Q : Fin → Shared → Prop} (hh : A.handled = none) (D : ZipApart z TI TO i1 i2 l1 l2) (gz : IsZipHeld s.heap z TI TO T f) (gT : s.heap.get? T = some oT) (gTI : IsPair s.heap TI (.ref i1) (.ref i2))
    (g1 : s.heap.IsTupleIter i1 l1 j1) (g2 : s.heap.IsTupleIter i2 l2 j2) (t1 : s.heap.IsTuple l1 as) (t2 : s.heap.IsTuple l2 bs) (ex : as[j1]? = none)
    (q : ∀ h' e, (∀ c o, c ≠ z → c ≠ i1 → c ≠ i2 → s.heap.get? c = some o → h'.get? c = some o) → (∃ o, h'.get? e = some o ∧ o.cls = .type "StopIteration") → E (.ref e) { s with heap := h' }) :
    wpAny (model P w) A (Builtin.«zip.__next__» ⟨[.ref z], []⟩) Q E s := by
  show wpAny _ _ (field (.ref z) 2 >>= _) _ _ _; refine wpAny_bind (wpAny_field gz rfl (x := .bool false) rfl ?_)
  show wpAny _ _ (field (.ref z) 3 >>= _) _ _ _; refine wpAny_bind (wpAny_field gz rfl (x := .ref TI) rfl ?_)
  refine wpAny_bind (wpAny_seqItems gTI rfl ?_)
  show wpAny _ _ (Builtin.SmallTypes.ownedTupleIsFree (.ref z) >>= _) _ _ _; refine wpAny_bind (wpAny_tupleHeld_zip gz gT fun k₁ gz₁ gs₁ => ?_)
  simp only [Bool.false_eq_true, if_false]; refine wpAny_bind ?_; rw [← Array.forIn_toList]; simp only [List.forIn_cons, List.forIn_nil]
  refine wpAny_bind (wpAny_bind (wpAny_holding ?_))
  show wpAny _ _ (Builtin.SmallTypes.nextOf (.ref i1) >>= _) _ _ _; refine wpAny_bind (nextOf_tuple_end (s := { s with heap := k₁ }) hh (g1.extBut gs₁.extBut D.i1z) (t1.extBut gs₁.extBut D.l1z) ex fun k₂ e gs₂ ge => ?_)
  exact q k₂ e (fun c o c1 c2 _ x => gs₂ _ _ c2 (gs₁.extBut _ _ c1 x)) ge
theorem nx_item {z TI TO T i1 i2 l1 l2 : Addr} {f : Bool} {oT : Obj} {j1 j2 : Nat} {as bs : Array Value} {x y : Value} {Q : Option Value → Shared → Prop} (D : ZipApart z TI TO i1 i2 l1 l2) (gz : IsZipHeld s.heap z TI TO T f) (gT : s.heap.get? T = some oT) (gTI : IsPair s.heap TI (.ref i1) (.ref i2))
    (g1 : s.heap.IsTupleIter i1 l1 j1) (g2 : s.heap.IsTupleIter i2 l2 j2) (t1 : s.heap.IsTuple l1 as) (t2 : s.heap.IsTuple l2 bs) (ex : as[j1]? = some x) (ey : bs[j2]? = some y)
    (q : ∀ h', IsZipHeld h' z TI TO T true → h'.IsTupleIter i1 l1 (j1 + 1) → h'.IsTupleIter i2 l2 (j2 + 1) → IsPair h' s.heap.objs.size x y → h'.objs.size = s.heap.objs.size + 1 → (∀ c o, c ≠ z → c ≠ i1 → c ≠ i2 → s.heap.get? c = some o → h'.get? c = some o) → Q (some (.ref s.heap.objs.size)) { s with heap := h' }) :
    wpAny (model P w) A (pyNext (.ref z)) Q E s := by
  have ty : s.TypeIs (.ref z) "zip" := ⟨_, gz, rfl⟩
  unfold pyNext
  exact wpAny_bind (wpAny_attempt (wpAny_callSpecial?_slot (name := Str.ofString "__next__") ty F.slot_zip_next (wpAny_call_entry F.slot_zip_next ty F.entry_zip_next (zh_item D gz gT gTI g1 g2 t1 t2 ex ey fun h' a1 a3 a4 a5 a6 a7 => wpAny_pure (q h' a1 a3 a4 a5 a6 a7)) (F.args_zip_next_1 _))))
theorem nx_end {z TI TO T i1 i2 l1 l2 : Addr} {f : Bool} {oT : Obj} {j1 j2 : Nat} {as bs : Array Value} {Q : Option Value → Shared → Prop} (hh : A.handled = none) (D : ZipApart z TI TO i1 i2 l1 l2) (gz : IsZipHeld s.heap z TI TO T f) (gT : s.heap.get? T = some oT) (gTI : IsPair s.heap TI (.ref i1) (.ref i2))
    (g1 : s.heap.IsTupleIter i1 l1 j1) (g2 : s.heap.IsTupleIter i2 l2 j2) (t1 : s.heap.IsTuple l1 as) (t2 : s.heap.IsTuple l2 bs) (ex : as[j1]? = none)
    (q : ∀ h', (∀ c o, c ≠ z → c ≠ i1 → c ≠ i2 → s.heap.get? c = some o → h'.get? c = some o) → Q none { s with heap := h' }) : wpAny (model P w) A (pyNext (.ref z)) Q E s := by
  have ty : s.TypeIs (.ref z) "zip" := ⟨_, gz, rfl⟩
  unfold pyNext
  refine wpAny_bind (wpAny_attempt (wpAny_callSpecial?_slot (name := Str.ofString "__next__") ty F.slot_zip_next (wpAny_call_entry F.slot_zip_next ty F.entry_zip_next (zh_end hh D gz gT gTI g1 g2 t1 t2 ex fun h' e kk ge => ?_) (F.args_zip_next_1 _))))
  obtain ⟨o, ho, hc⟩ := ge
  exact wpAny_bind (wpAny_isInstance (T := "StopIteration") (b := true) ⟨o, ho, hc⟩ isSubtype_stop (wpAny_pure (q _ kk)))
/-- the zip object between two turns -/
def Zst (as bs : Array Value) (z TI TO i1 i2 l1 l2 S : Addr) (k : Nat) (h : Heap) : Prop :=
  IsPair h TI (.ref i1) (.ref i2) ∧ h.IsTupleIter i1 l1 k ∧ h.IsTupleIter i2 l2 k ∧ h.IsTuple l1 as ∧ h.IsTuple l2 bs ∧
  ((IsZip h z TI TO .none ∧ ∃ a b, IsPair h TO a b) ∨ ∃ T f oT, IsZipHeld h z TI TO T f ∧ h.get? T = some oT ∧ T ≠ z ∧ T ≠ i1 ∧ T ≠ i2 ∧ T ≠ S)
theorem Zst.off {as bs : Array Value} {z TI TO i1 i2 l1 l2 S : Addr} {k : Nat} {h h' : Heap} (st : Zst as bs z TI TO i1 i2 l1 l2 S k h) (nz : z ≠ S) (nTI : TI ≠ S) (nTO : TO ≠ S) (n1 : i1 ≠ S) (n2 : i2 ≠ S) (m1 : l1 ≠ S) (m2 : l2 ≠ S)
    (kk : ∀ b o, b ≠ S → h.get? b = some o → h'.get? b = some o) : Zst as bs z TI TO i1 i2 l1 l2 S k h' := by
  obtain ⟨p, a1, a2, a3, a4, r⟩ := st
  refine ⟨kk _ _ nTI p, a1.at fun o e => kk _ o n1 e, a2.at fun o e => kk _ o n2 e, a3.at fun o e => kk _ o m1 e, a4.at fun o e => kk _ o m2 e, ?_⟩
  rcases r with ⟨c1, a, b, c2⟩ | ⟨T, f, oT, c1, c2, r1, r2, r3, r4⟩
  · exact .inl ⟨kk _ _ nz c1, a, b, kk _ _ nTO c2⟩
  · exact .inr ⟨T, f, oT, kk _ _ nz c1, kk _ _ r4 c2, r1, r2, r3, r4⟩
theorem zst_item {as bs : Array Value} {z TI TO i1 i2 l1 l2 S : Addr} {k : Nat} {x y : Value} {Q : Option Value → Shared → Prop} (D : ZipApart z TI TO i1 i2 l1 l2) (st : Zst as bs z TI TO i1 i2 l1 l2 S k s.heap) (hS : S < s.heap.objs.size) (ex : as[k]? = some x) (ey : bs[k]? = some y)
    (q : ∀ h', Zst as bs z TI TO i1 i2 l1 l2 S (k + 1) h' → IsPair h' s.heap.objs.size x y → h'.objs.size = s.heap.objs.size + 1 → (∀ c o, c ≠ z → c ≠ TO → c ≠ i1 → c ≠ i2 → s.heap.get? c = some o → h'.get? c = some o) → Q (some (.ref s.heap.objs.size)) { s with heap := h' }) :
    wpAny (model P w) A (pyNext (.ref z)) Q E s := by
  obtain ⟨p, a1, a2, a3, a4, r⟩ := st
  have lt : ∀ {c o}, s.heap.get? c = some o → s.heap.objs.size ≠ c := fun e => Nat.ne_of_gt (Heap.lt_size e)
  have n1 : s.heap.objs.size ≠ i1 := let ⟨_, e, _⟩ := a1; lt e
  have n2 : s.heap.objs.size ≠ i2 := let ⟨_, e, _⟩ := a2; lt e
  rcases r with ⟨c1, a, b, c2⟩ | ⟨T, f, oT, c1, c2, r1, r2, r3, r4⟩
  · refine pyNext_zipT_item D c1 p c2 a1 a2 a3 a4 ex ey fun h' b1 b2 b3 b4 b5 b6 kk => ?_
    exact q h' ⟨kk _ _ D.TIz D.TITO D.TIi1 D.TIi2 p, b3, b4, a3.at fun o e => kk _ o D.l1z D.l1TO D.l1i1 D.l1i2 e, a4.at fun o e => kk _ o D.l2z D.l2TO D.l2i1 D.l2i2 e, .inr ⟨_, false, _, b1, b5, lt c1, n1, n2, Nat.ne_of_gt hS⟩⟩ b5 b6 kk
  · refine nx_item D c1 c2 p a1 a2 a3 a4 ex ey fun h' b1 b3 b4 b5 b6 kk => ?_
    exact q h' ⟨kk _ _ D.TIz D.TIi1 D.TIi2 p, b3, b4, a3.at fun o e => kk _ o D.l1z D.l1i1 D.l1i2 e, a4.at fun o e => kk _ o D.l2z D.l2i1 D.l2i2 e, .inr ⟨T, true, oT, b1, kk _ _ r1 r2 r3 c2, r1, r2, r3, r4⟩⟩ b5 b6 fun c o d1 _ d3 d4 e => kk c o d1 d3 d4 e
theorem zst_end {as bs : Array Value} {z TI TO i1 i2 l1 l2 S : Addr} {k : Nat} {Q : Option Value → Shared → Prop} (hh : A.handled = none) (D : ZipApart z TI TO i1 i2 l1 l2) (st : Zst as bs z TI TO i1 i2 l1 l2 S k s.heap) (ex : as[k]? = none)
    (q : ∀ h', (∀ c o, c ≠ z → c ≠ TO → c ≠ i1 → c ≠ i2 → s.heap.get? c = some o → h'.get? c = some o) → Q none { s with heap := h' }) : wpAny (model P w) A (pyNext (.ref z)) Q E s := by
  obtain ⟨p, a1, a2, a3, a4, r⟩ := st
  rcases r with ⟨c1, a, b, c2⟩ | ⟨T, f, oT, c1, c2, r1, r2, r3, r4⟩
  · exact pyNext_zipT_end hh D c1 p c2 a1 a2 a3 a4 (.inl ex) q
  · exact nx_end hh D c1 c2 p a1 a2 a3 a4 ex fun h' kk => q h' fun c o d1 _ d3 d4 e => kk c o d1 d3 d4 e
end
end K21

set_option maxRecDepth 100000
set_option maxHeartbeats 2000000
namespace K21
open PySem PySem.Spec PyProof.Rows L2 RZ
theorem zip_nolen : typeLookup (.type "zip") "__len__" = pure none := by rw [typeLookup_type, builtinLookup_eq_fast]; kernel_rfl
theorem zip_nohint : typeLookup (.type "zip") "__length_hint__" = pure none := by rw [typeLookup_type, builtinLookup_eq_fast]; kernel_rfl
/-- the pairs laid so far -/
structure Zg (as bs : Array Value) (lo : Addr) (h : Heap) (ps : List Addr) : Prop where
  up : ps.Pairwise (· < ·)
  ab : ∀ a ∈ ps, lo < a
  pr : ∀ (j : Nat) (a : Addr), ps[j]? = some a → ∃ x y, as[j]? = some x ∧ bs[j]? = some y ∧ IsPair h a x y
theorem Zg.there {as bs : Array Value} {lo : Addr} {h : Heap} {ps : List Addr} (g : Zg as bs lo h ps) {a : Addr} (ha : a ∈ ps) : a < h.objs.size := by
  obtain ⟨j, hj⟩ := List.mem_iff_getElem?.mp ha
  obtain ⟨_, _, _, _, e⟩ := g.pr j a hj
  exact Heap.lt_size e
section
variable {P : Program} {w : World} {A : Around} {E : Value → Shared → Prop} {s : Shared} {R : Result → Shared → Prop} {as bs : Array Value} {z TI TO i1 i2 l1 l2 S : Addr}
/-- what stands below the list -/
structure Zlow (z TI TO i1 i2 l1 l2 S : Addr) : Prop where
  z : z < S
  TI : TI < S
  TO : TO < S
  i1 : i1 < S
  i2 : i2 < S
  l1 : l1 < S
  l2 : l2 < S
theorem zl_loop (hh : A.handled = none) (D : ZipApart z TI TO i1 i2 l1 l2) (L : Zlow z TI TO i1 i2 l1 l2 S) (hab : as.size = bs.size) (hn : as.size ≤ sizeLine) (res : Value) {h₁ : Heap}
    (hR : ∀ h' tk acc c ps, (∀ b o, b ≠ S → b ≠ z → b ≠ TO → b ≠ i1 → b ≠ i2 → h₁.get? b = some o → h'.get? b = some o) → h'.get? S = some { cls := .type "list", dict := none, data := .seq acc c, slots := #[] } → ps.length = as.size → Zg as bs S h' ps → acc.toList = ps.map Value.ref → R (.ok (.ret res)) { s with heap := h', toks := tk }) :
    ∀ (k i : Nat) (h : Heap) (tk c : Nat) (acc : Array Value) (ps : List Addr), as.size - i = k → i ≤ as.size → Zst as bs z TI TO i1 i2 l1 l2 S i h → (∀ b o, b ≠ S → b ≠ z → b ≠ TO → b ≠ i1 → b ≠ i2 → h₁.get? b = some o → h.get? b = some o) →
      h.get? S = some { cls := .type "list", dict := none, data := .seq acc c, slots := #[] } → acc.toList = ps.map Value.ref → ps.length = i → Zg as bs S h ps →
      codeAny (model P w) A (.builtin "list.extend.loop" ⟨[.ref S, .ref z, res], []⟩) R { s with heap := h, toks := tk } := by
  have nz : S ≠ z := Nat.ne_of_gt L.z
  have nO : S ≠ TO := Nat.ne_of_gt L.TO
  have n1 : S ≠ i1 := Nat.ne_of_gt L.i1
  have n2 : S ≠ i2 := Nat.ne_of_gt L.i2
  intro k
  induction k with
  | zero =>
    intro i h tk c acc ps ek hi st kk hS ea el G
    refine codeAny_builtin PySem.F.entry_extend_loop ?_; rw [Around.under_plainId PySem.F.plain_extend_loop _]
    show wpAny _ A.in1 (pyNext (.ref z) >>= _) _ _ _
    refine wpAny_bind (zst_end (s := { s with heap := h, toks := tk }) (A := A.in1) hh D st (Array.getElem?_eq_none (by omega)) fun h' k2 => ?_)
    refine wpAny_pure (hR h' tk acc c ps (fun b o a1 a2 a3 a4 a5 e => k2 b o a2 a3 a4 a5 (kk b o a1 a2 a3 a4 a5 e)) (k2 S _ nz nO n1 n2 hS) (by omega) ⟨G.up, G.ab, fun j a hj => ?_⟩ ea)
    obtain ⟨x, y, e1, e2, e3⟩ := G.pr j a hj
    have hl : S < a := G.ab a (List.mem_of_getElem? hj)
    have ne : ∀ {b}, b < S → a ≠ b := fun h => Nat.ne_of_gt (Nat.lt_trans h hl)
    exact ⟨x, y, e1, e2, k2 a _ (ne L.z) (ne L.TO) (ne L.i1) (ne L.i2) e3⟩
  | succ k ih =>
    intro i h tk c acc ps ek hi st kk hS ea el G
    have hlt : i < as.size := by omega
    have asz : acc.size = i := by rw [← Array.length_toList, ea, List.length_map, el]
    have hSl : S < h.objs.size := Heap.lt_size hS
    refine codeAny_builtin PySem.F.entry_extend_loop ?_; rw [Around.under_plainId PySem.F.plain_extend_loop _]
    show wpAny _ A.in1 (pyNext (.ref z) >>= _) _ _ _
    refine wpAny_bind (zst_item (s := { s with heap := h, toks := tk }) (A := A.in1) D st hSl (Array.getElem?_eq_getElem hlt) (Array.getElem?_eq_getElem (by omega)) fun h' st' ht hz k2 => ?_)
    dsimp only at ht hz k2 ⊢
    have hS' := k2 S _ nz nO n1 n2 hS
    have up : ∀ b o, b ≠ S → h'.get? b = some o → (h'.update S (Obj.mapSeq (·.push (Value.ref h.objs.size)))).get? b = some o := fun b o hb e => (Heap.get?_update_other _ _ (Ne.symm hb)).trans e
    show wpAny _ A.in1 (updateSeq S (·.push (Value.ref h.objs.size)) >>= _) _ _ _
    refine wpAny_bind ?_
    refine wpAny_updateSeq hS' rfl (wpAny_pure ⟨plainId_quiet PySem.F.plain_extend_loop _, ih (i + 1) _ tk _ (acc.push (Value.ref h.objs.size)) (ps ++ [h.objs.size]) (by omega) hlt
      (st'.off (Ne.symm nz) (Nat.ne_of_lt L.TI) (Ne.symm nO) (Ne.symm n1) (Ne.symm n2) (Nat.ne_of_lt L.l1) (Nat.ne_of_lt L.l2) up) (fun b o a1 a2 a3 a4 a5 e => up b o a1 (k2 b o a2 a3 a4 a5 (kk b o a1 a2 a3 a4 a5 e))) (Heap.get?_update_self _ hS' rfl) (by rw [Array.toList_push, ea, List.map_append]; rfl) (by rw [List.length_append, el]; rfl) ⟨?_, ?_, ?_⟩⟩) (by rw [asz]; omega) (by show (acc.push (Value.ref h.objs.size)).size ≤ sizeLine + 1; rw [Array.size_push, asz]; omega)
    · refine List.pairwise_append.mpr ⟨G.up, List.pairwise_singleton _ _, fun a ha b hb => ?_⟩; rw [List.mem_singleton.mp hb]; exact G.there ha
    · intro a ha
      rcases List.mem_append.mp ha with ha | ha
      · exact G.ab a ha
      · rw [List.mem_singleton.mp ha]; exact hSl
    · intro j b hj
      rcases Nat.lt_trichotomy j ps.length with o1 | o1 | o1
      · rw [List.getElem?_append_left o1] at hj
        obtain ⟨x, y, e1, e2, e3⟩ := G.pr j b hj
        have hl : S < b := G.ab b (List.mem_of_getElem? hj)
        have ne : ∀ {a}, a < S → b ≠ a := fun h => Nat.ne_of_gt (Nat.lt_trans h hl)
        exact ⟨x, y, e1, e2, up b _ (Nat.ne_of_gt hl) (k2 b _ (ne L.z) (ne L.TO) (ne L.i1) (ne L.i2) e3)⟩
      · subst o1
        have hb : h.objs.size = b := by simpa using hj
        subst hb
        exact ⟨_, _, by subst el; exact Array.getElem?_eq_getElem hlt, by subst el; exact Array.getElem?_eq_getElem (by omega), up _ _ (Nat.ne_of_gt hSl) ht⟩
      · have hnone : (ps ++ [h.objs.size])[j]? = none := List.getElem?_eq_none (by rw [List.length_append, List.length_singleton]; omega)
        rw [hnone] at hj; cases hj
theorem zl_extend (hh : A.handled = none) (D : ZipApart z TI TO i1 i2 l1 l2) (L : Zlow z TI TO i1 i2 l1 l2 S) (hab : as.size = bs.size) (hn : as.size ≤ sizeLine) (res : Value) (c₀ : Nat) (hz : IsZip s.heap z TI TO .none) (st : Zst as bs z TI TO i1 i2 l1 l2 S 0 s.heap) (hS : s.heap.get? S = some { cls := .type "list", data := .seq #[] c₀ })
    (hR : ∀ h' tk acc c ps, (∀ b o, b ≠ S → b ≠ z → b ≠ TO → b ≠ i1 → b ≠ i2 → s.heap.get? b = some o → h'.get? b = some o) → h'.get? S = some { cls := .type "list", dict := none, data := .seq acc c, slots := #[] } → ps.length = as.size → Zg as bs S h' ps → acc.toList = ps.map Value.ref → R (.ok (.ret res)) { s with heap := h', toks := tk }) :
    wpAny (model P w) A.in1 (Builtin.List.listExtendWith (.ref S) (.ref z) res)
      (fun fin s' => match fin with | .done f => R (.ok f) s' | .again c' => c'.quiet = true ∧ codeAny (model P w) A c' R s') (fun e s' => R (.error e) s') s := by
  have ty : s.TypeIs (.ref z) "zip" := ⟨_, hz, rfl⟩
  have e1 : Builtin.List.listSameRef (.ref S) (.ref z) = false := by simp [Builtin.List.listSameRef, Nat.ne_of_gt L.z]
  have e2 : (Value.type "zip" == Value.type "list") = false := by decide
  have e3 : (Value.type "zip" == Value.type "tuple") = false := by decide
  unfold Builtin.List.listExtendWith
  refine wpAny_bind (wpAny_typeOf ty ?_)
  simp only [e1, e2, e3, Bool.or_false, Bool.false_eq_true, if_false]
  refine wpAny_bind (wpAny_pyIter_zip hz ?_); refine wpAny_bind (wpAny_holding ?_); unfold Builtin.List.listLengthHint
  refine wpAny_bind (wpAny_specialOf ty zip_nolen ?_)
  show wpAny _ A.in1 (specialOf (Value.ref z) (Str.ofString "__length_hint__") >>= _) _ _ _; refine wpAny_bind (wpAny_specialOf ty zip_nohint ?_)
  refine wpAny_pure ?_
  show wpAny _ A.in1 (rule "list.extend.makes-room" >>= fun _ => Builtin.List.listTouch (.ref S) >>= fun _ => again (.builtin "list.extend.loop" ⟨[.ref S, .ref z, res], []⟩)) _ _ _
  refine wpAny_bind (wpAny_rule ?_); refine wpAny_bind ?_
  show wpAny _ A.in1 (updateSeq S (·.push .none) >>= fun _ => updateSeq S (·.pop)) _ _ _
  refine wpAny_bind (wpAny_updateSeq hS rfl ?_)
  have hS₂ := Heap.get?_update_self (Obj.mapSeq (·.push Value.none)) hS rfl
  refine wpAny_updateSeq (hz := by seq_fits) hS₂ rfl ?_
  have hS₃ := Heap.get?_update_self (Obj.mapSeq (·.pop)) hS₂ rfl
  have up : ∀ b o, b ≠ S → s.heap.get? b = some o → ((s.heap.update S (Obj.mapSeq (·.push Value.none))).update S (Obj.mapSeq (·.pop))).get? b = some o := fun b o hb e => (Heap.get?_update_other _ _ (Ne.symm hb)).trans ((Heap.get?_update_other _ _ (Ne.symm hb)).trans e)
  have nl : ∀ {a}, a < S → a ≠ S := fun h => Nat.ne_of_lt h
  exact wpAny_pure ⟨plainId_quiet PySem.F.plain_extend_loop _, zl_loop (s := s) (h₁ := s.heap) hh D L hab hn res hR as.size 0 _ _ _ _ [] (by omega) (Nat.zero_le _) (st.off (nl L.z) (nl L.TI) (nl L.TO) (nl L.i1) (nl L.i2) (nl L.l1) (nl L.l2) up) (fun b o a1 _ _ _ _ e => up b o a1 e) hS₃ rfl rfl ⟨List.Pairwise.nil, (fun _ ha => nomatch ha), (fun j a hj => by simp at hj)⟩⟩
theorem zl_init (hh : A.handled = none) (D : ZipApart z TI TO i1 i2 l1 l2) (L : Zlow z TI TO i1 i2 l1 l2 S) (hab : as.size = bs.size) (hn : as.size ≤ sizeLine) (hz : IsZip s.heap z TI TO .none) (st : Zst as bs z TI TO i1 i2 l1 l2 S 0 s.heap) (hS : s.heap.get? S = some { cls := .type "list", data := .seq #[] })
    (hR : ∀ h' tk acc c ps, (∀ b o, b ≠ S → b ≠ z → b ≠ TO → b ≠ i1 → b ≠ i2 → s.heap.get? b = some o → h'.get? b = some o) → h'.get? S = some { cls := .type "list", dict := none, data := .seq acc c, slots := #[] } → ps.length = as.size → Zg as bs S h' ps → acc.toList = ps.map Value.ref → R (.ok (.ret .none)) { s with heap := h', toks := tk }) :
    wpAny (model P w) A.in1 (Builtin.«list.__init__» ⟨[.ref S, .ref z], []⟩)
      (fun fin s' => match fin with | .done f => R (.ok f) s' | .again c' => c'.quiet = true ∧ codeAny (model P w) A c' R s') (fun e s' => R (.error e) s') s := by
  show wpAny _ _ (do let old ← Builtin.List.listItems (.ref S); Builtin.List.listUpdate (.ref S) (fun _ => #[]); letGo old.toList.reverse; Builtin.List.listExtendWith (.ref S) (.ref z) .none) _ _ s
  refine wpAny_bind ?_; unfold Builtin.List.listItems; refine wpAny_bind (wpAny_seqItems hS rfl (wpAny_pure ?_))
  show wpAny _ _ (updateSeq S (fun _ => #[]) >>= fun _ => letGo (#[] : Array Value).toList.reverse >>= fun _ => Builtin.List.listExtendWith (.ref S) (.ref z) .none) _ _ s
  refine wpAny_bind (wpAny_updateSeq hS rfl ?_)
  have hS₂ := Heap.get?_update_self (Obj.mapSeq (fun _ => (#[] : Array Value))) hS rfl
  have up : ∀ b o, b ≠ S → s.heap.get? b = some o → (s.heap.update S (Obj.mapSeq (fun _ => (#[] : Array Value)))).get? b = some o := fun b o hb e => (Heap.get?_update_other _ _ (Ne.symm hb)).trans e
  have nl : ∀ {a}, a < S → a ≠ S := fun h => Nat.ne_of_lt h
  refine wpAny_bind (wpAny_letGo ?_)
  exact zl_extend hh D L hab hn .none _ (up _ _ (nl L.z) hz) (st.off (nl L.z) (nl L.TI) (nl L.TO) (nl L.i1) (nl L.i2) (nl L.l1) (nl L.l2) up) hS₂ fun h' tk acc c ps kk => hR h' tk acc c ps fun b o a1 a2 a3 a4 a5 e => kk b o a1 a2 a3 a4 a5 (up b o a1 e)
theorem zl_call {Q : Value → Shared → Prop} (hh : A.handled = none) (D : ZipApart z TI TO i1 i2 l1 l2) (hab : as.size = bs.size) (hn : as.size ≤ sizeLine) (hz : IsZip s.heap z TI TO .none) (gTI : IsPair s.heap TI (.ref i1) (.ref i2)) (gTO : ∃ a b, IsPair s.heap TO a b) (g1 : s.heap.IsTupleIter i1 l1 0) (g2 : s.heap.IsTupleIter i2 l2 0) (t1 : s.heap.IsTuple l1 as) (t2 : s.heap.IsTuple l2 bs)
    (q : ∀ h' tk acc c ps, (∀ b o, b ≠ z → b ≠ TO → b ≠ i1 → b ≠ i2 → s.heap.get? b = some o → h'.get? b = some o) → h'.get? s.heap.objs.size = some { cls := .type "list", dict := none, data := .seq acc c, slots := #[] } → ps.length = as.size → Zg as bs s.heap.objs.size h' ps → acc.toList = ps.map Value.ref → Q (.ref s.heap.objs.size) { s with heap := h', toks := tk }) :
    wpAny (model P w) A (call (.type "list") [.ref z]) Q E s := by
  have L : Zlow z TI TO i1 i2 l1 l2 s.heap.objs.size := ⟨Heap.lt_size hz, Heap.lt_size gTI, let ⟨_, _, e⟩ := gTO; Heap.lt_size e, let ⟨_, e, _⟩ := g1; Heap.lt_size e, let ⟨_, e, _⟩ := g2; Heap.lt_size e, let ⟨_, e, _⟩ := t1; Heap.lt_size e, let ⟨_, e, _⟩ := t2; Heap.lt_size e⟩
  have nl : ∀ {a}, a < s.heap.objs.size → a ≠ s.heap.objs.size := fun h => Nat.ne_of_lt h
  refine callType_codes (Q₁ := fun obj s₁ => obj = .ref s.heap.objs.size ∧ s₁ = { s with heap := s.heap.push { cls := .type "list", data := .seq #[] } }) PySem.F.called_list (PySem.F.typeCall_list_1 _) PySem.F.entry_list_init (code_list_new _ ⟨rfl, rfl⟩) fun obj s₁ h₁ => ?_
  obtain ⟨rfl, rfl⟩ := h₁
  have hS : (s.heap.push { cls := .type "list", data := .seq #[] }).get? s.heap.objs.size = some { cls := .type "list", data := .seq #[] } := Heap.get?_push_size _ rfl
  have up : ∀ b o, s.heap.get? b = some o → (s.heap.push { cls := .type "list", data := .seq #[] }).get? b = some o := fun b o e => Heap.get?_push_of_some _ e
  obtain ⟨ta, tb, gTO⟩ := gTO
  have st : Zst as bs z TI TO i1 i2 l1 l2 s.heap.objs.size 0 (s.heap.push { cls := .type "list", data := .seq #[] }) := ⟨up _ _ gTI, g1.at fun o e => up _ o e, g2.at fun o e => up _ o e, t1.at fun o e => up _ o e, t2.at fun o e => up _ o e, .inl ⟨up _ _ hz, ta, tb, up _ _ gTO⟩⟩
  refine ⟨⟨_, hS, rfl⟩, PySem.F.args_list_init_2 _ _, zl_init (A := A.in1) hh D L hab hn (up _ _ hz) st hS (fun h' tk acc c ps kk hS' hl G ea => ?_)⟩
  exact ⟨rfl, q h' tk acc c ps (fun b o a2 a3 a4 a5 e => kk b o (Nat.ne_of_lt (Heap.lt_size e)) a2 a3 a4 a5 (up b o e)) hS' hl G ea⟩
end
end K21

set_option maxRecDepth 100000
set_option maxHeartbeats 2000000
namespace K21
open PySem PySem.Spec PyProof.Rows L2 RZ
/-! ### pairs tracked -/
def putP : Hp → List Addr → List (V × V) → Hp
  | H, a :: as, p :: qs => putP (upd H a (.tup [p.1, p.2])) as qs
  | H, [], _ => H
  | H, _, [] => H
theorem putP_off {b : Addr} : ∀ (as : List Addr) (qs : List (V × V)) (H : Hp), b ∉ as → putP H as qs b = H b
  | [], qs, H, _ => by cases qs <;> rfl
  | _ :: _, [], _, _ => rfl
  | a :: as, p :: qs, H, h => by
    have h1 : b ≠ a := fun z => h (by rw [z]; exact List.mem_cons_self)
    have h2 : b ∉ as := fun z => h (List.mem_cons_of_mem _ z)
    simp only [putP]; rw [putP_off as qs _ h2, upd_ne h1]
theorem putP_at : ∀ (as : List Addr) (qs : List (V × V)) (H : Hp), as.length = qs.length → as.Nodup → ∀ (j : Nat) (a : Addr), as[j]? = some a → ∃ p, qs[j]? = some p ∧ putP H as qs a = some (.tup [p.1, p.2])
  | [], _, _, _, _, j, a, e => by simp at e
  | _ :: _, [], _, h, _, _, _, _ => by cases h
  | a :: as, p :: qs, H, h, hn, j, b, e => by
    have hn' := List.nodup_cons.mp hn
    cases j with
    | zero =>
      simp at e; subst e
      exact ⟨p, rfl, by simp only [putP]; rw [putP_off as qs _ hn'.1, upd_same]⟩
    | succ j => exact putP_at as qs (upd H a (.tup [p.1, p.2])) (Nat.succ.inj h) hn'.2 j b (by simpa using e)
def tListZip (K : PySem.W.Frag) (ta : TA) : TE := fun σ H Q => ta σ H fun vs H1 => ∃ a b xs ys, vs = [.ref a, .ref b] ∧ SqT K H1 a xs ∧ SqT K H1 b ys ∧ xs.length = ys.length ∧
  ∀ (H' : Hp) (l : Addr) (ps : List Addr), (∀ b o, H1 b = some o → H' b = some o) → H1 l = none → H' l = some (.lst (ps.map V.ref)) → ps.length = xs.length → (∀ (j : Nat) (a : Addr), ps[j]? = some a → ∃ x y, xs[j]? = some x ∧ ys[j]? = some y ∧ H' a = some (.tup [x, y])) → Q (.ref l) H'
section
variable {X : Cx}
theorem zip_laid {pins : List (Addr × Obj)} {σ : L2.St} {H : Hp} {s : Shared} {h' : Heap} {S : Addr} {tk c : Nat} {xs ys : List V} {us vs : List Value} {acc : Array Value} {ps : List Addr} (I : Inv X pins σ H s) (hxy : xs.length = ys.length) (hz : xs.length ≤ sizeLine) (rx : Vals xs us) (ry : Vals ys vs)
    (hS0 : s.heap.objs.size ≤ S) (kk : ∀ b o, s.heap.get? b = some o → h'.get? b = some o) (hS : h'.get? S = some { cls := .type "list", dict := none, data := .seq acc c, slots := #[] }) (hl : ps.length = us.length) (G : Zg us.toArray vs.toArray S h' ps) (ea : acc.toList = ps.map Value.ref) :
    ∃ H' : Hp, (∀ b o, H b = some o → H' b = some o) ∧ H S = none ∧ H' S = some (.lst (ps.map V.ref)) ∧ (∀ (j : Nat) (a : Addr), ps[j]? = some a → ∃ x y, xs[j]? = some x ∧ ys[j]? = some y ∧ H' a = some (.tup [x, y])) ∧ Inv X pins σ H' { s with heap := h', toks := tk } := by
  have lx := rx.length
  have nS : S ∉ ps := fun z => Nat.lt_irrefl _ (G.ab _ z)
  have nd : ps.Nodup := List.Pairwise.imp (fun {a b} (h : a < b) => Nat.ne_of_lt h) G.up
  have fr : ∀ t ∈ ps, H t = none := fun t ht => I.hok.fresh (Nat.le_of_lt (Nat.lt_of_le_of_lt hS0 (G.ab t ht)))
  have frS : H S = none := I.hok.fresh hS0
  have lz : (xs.zip ys).length = ps.length := by rw [List.length_zip, ← hxy, Nat.min_self]; omega
  have at0 := putP_at ps (xs.zip ys) (upd H S (.lst (ps.map V.ref))) lz.symm nd
  have at1 : ∀ (j : Nat) (a : Addr), ps[j]? = some a → ∃ x y, xs[j]? = some x ∧ ys[j]? = some y ∧ putP (upd H S (.lst (ps.map V.ref))) ps (xs.zip ys) a = some (.tup [x, y]) := fun j a e => by
    obtain ⟨p, e1, e2⟩ := at0 j a e
    obtain ⟨e3, e4⟩ := List.getElem?_zip_eq_some.mp e1
    exact ⟨p.1, p.2, e3, e4, e2⟩
  have off : ∀ b, b ∉ ps → b ≠ S → putP (upd H S (.lst (ps.map V.ref))) ps (xs.zip ys) b = H b := fun b h1 h2 => by rw [putP_off ps _ _ h1, upd_ne h2]
  have low : ∀ b o, s.heap.get? b = some o → b ∉ ps ∧ b ≠ S := fun b o e => ⟨fun z => absurd (Nat.lt_of_lt_of_le (Heap.lt_size e) hS0) (Nat.not_lt.mpr (Nat.le_of_lt (G.ab b z))), Nat.ne_of_lt (Nat.lt_of_lt_of_le (Heap.lt_size e) hS0)⟩
  have kp : ∀ b u, H b = some u → (putP (upd H S (.lst (ps.map V.ref))) ps (xs.zip ys)) b = some u := fun b u e => by
    rw [off b (fun z => by rw [fr b z] at e; cases e) (fun z => by rw [z, frS] at e; cases e)]; exact e
  have eS : putP (upd H S (.lst (ps.map V.ref))) ps (xs.zip ys) S = some (.lst (ps.map V.ref)) := by rw [putP_off ps _ _ nS, upd_same]
  refine ⟨putP (upd H S (.lst (ps.map V.ref))) ps (xs.zip ys), kp, frS, eS, at1, ?_⟩
  refine I.call' (ch := []) rfl ⟨fun b o q _ _ _ => kk b o q, fun b o q _ _ _ => ⟨o.slots, kk b o q⟩, fun b o q n _ => ?_, fun b o q _ => ⟨o, kk b o q⟩, fun b xs q => kp b _ q, fun b o u q => kp b _ q, fun b ps q => ⟨#[], by rw [kp b _ q]; simp⟩⟩ (fun b u q => ?_) I.bare fun b z => by simp at z
  · obtain ⟨z1, z2⟩ := low b o q
    rw [off b z1 z2]; exact n
  · by_cases hb : b ∈ ps
    · obtain ⟨j, ej⟩ := List.mem_iff_getElem?.mp hb
      obtain ⟨x, y, e1, e2, e3⟩ := at1 j b ej
      rw [e3] at q; cases q
      obtain ⟨u, v, f1, f2, f3⟩ := G.pr j b ej
      obtain ⟨u', g1, r1⟩ := rx.get e1
      obtain ⟨v', g2, r2⟩ := ry.get e2
      have f1' : us[j]? = some u := by simpa using f1
      have f2' : vs[j]? = some v := by simpa using f2
      rw [g1] at f1'; cases f1'; rw [g2] at f2'; cases f2'
      exact ⟨by show 2 ≤ sizeLine; decide, [u, v], .cons r1 (.cons r2 .nil), ⟨_, f3, rfl, _, rfl⟩⟩
    · by_cases hb2 : b = S
      · rw [hb2] at q ⊢
        rw [eS] at q; cases q
        refine ⟨by rw [List.length_map]; omega, acc.toList, c, by rw [ea]; exact LiI.vals_refs ps, ?_⟩
        rw [Array.toArray_toList]; exact hS
      · rw [off b hb hb2] at q
        exact (I.hok b u q).stay (fun d v _ y => kk d v y) (fun d y => kp d _ y) fun d xs y => kp d _ y
/-- list(zip(e, e2)), two tuples of one length -/
theorem pe_listZip {e e2 : Expr} {ta : TA} {p p2 q pos : Pos} (hc : X.calm = true) (hg : Gl X "list") (hm : X.mg "list" = none) (hv : bootBuiltins "list" = some (.type "list")) (hg2 : Gl X "zip") (hm2 : X.mg "zip" = none) (ha : PA X [e, e2] ta)
    (hs : starEach [e, e2] X.env = (false, eval e X.env) :: starEach [e2] X.env := by rfl) (hpl : (backTo q (starEach [e2] X.env)).any (·.1) = false := by rfl)
    (na : starEach [.Call (.Name "zip" p2) [e, e2] [] q] X.env = (false, eval (.Call (.Name "zip" p2) [e, e2] [] q) X.env) :: starEach [] X.env := by rfl) : PE X (.Call (.Name "list" p) [.Call (.Name "zip" p2) [e, e2] [] q] [] pos) (tListZip X.K ta) := by
  refine ⟨fun pins s σ H Q I h => ?_⟩
  refine Call_ (ld_blt I hg hm hv ?_)
  refine PyProof.Rows.callWith_type1 (PyProof.Rows.args_cons ?_ na) na rfl
  refine Call_ (ld_blt I hg2 hm2 PyProof.Rows.boot_zip (PyProof.Rows.callWith_type1 (thn (ha.run q pins s σ H _ I h) fun us s1 ⟨vs, H1, I1, r1, q1⟩ => ?_) hs hpl))
  obtain ⟨a, b, xs, ys, ex, hx, hy, hxy, q1⟩ := q1
  subst ex
  cases r1 with
  | cons r rr =>
    cases rr with
    | cons r' rr =>
      cases rr; cases r; cases r'
      obtain ⟨its, rv, p1, z1⟩ := I1.tuple hx
      obtain ⟨its2, rv2, p2, z2⟩ := I1.tuple hy
      obtain ⟨o1, ho1, _⟩ := id p1
      obtain ⟨o2, ho2, _⟩ := id p2
      have le1 := rv.length
      have le2 := rv2.length
      refine call_zipT (show s1.heap.IsTuple a its.toArray from p1) (show s1.heap.IsTuple b its2.toArray from p2) fun h' hz hTI hTO g1 g2 hsz hk => PyProof.Rows.args_nil ?_
      refine zl_call (s := { s1 with heap := h' }) (I1.ok.hd hc) (PySem.W.ktu_apart s1.heap.objs.size a b (Heap.lt_size ho1) (Heap.lt_size ho2)) (as := its.toArray) (bs := its2.toArray) (by simp; omega) (by simp; omega) hz hTI ⟨_, _, hTO⟩ g1 g2 (Heap.IsTuple.at p1 fun o e => hk _ o e) (Heap.IsTuple.at p2 fun o e => hk _ o e) fun h'' tk acc c ps kk hS hl G ea => ?_
      have kk2 : ∀ c o, s1.heap.get? c = some o → h''.get? c = some o := fun c o e => by
        have hlt : c < s1.heap.objs.size := Heap.lt_size e
        have ne : ∀ {d}, s1.heap.objs.size ≤ d → c ≠ d := fun h => Nat.ne_of_lt (Nat.lt_of_lt_of_le hlt h)
        exact kk c o (ne (Nat.le_add_right _ _)) (ne (Nat.le_add_right _ _)) (ne (Nat.le_refl _)) (ne (Nat.le_add_right _ _)) (hk c o e)
      have hS0 : s1.heap.objs.size ≤ h'.objs.size := by rw [hsz]; exact Nat.le_add_right _ _
      obtain ⟨H', k1, k2, k3, k4, J⟩ := zip_laid (tk := tk) I1 hxy z1 rv rv2 hS0 kk2 hS (by simpa using hl) G ea
      exact ⟨.ref _, H', J, rfl, q1 H' _ ps k1 k2 k3 (by simp at hl; omega) k4⟩
/-! ### t[::-1] -/
section
variable {P : Program} {w : World} {A : Around} {E : Value → Shared → Prop} {s : Shared}
theorem applied_rev {sl : Addr} {vk : Value} {n : Nat} {Q : Int × Int × Nat → Shared → Prop} (hs : s.heap.IsSliceOf sl .none .none vk) (pk : IsPart vk (some (-1))) (h : Q ((n : Int) - 1, -1, n) s) : wpAny (model P w) A (Builtin.Slice.sliceApplied (.ref sl) (pure (n : Int))) Q E s := by
  obtain ⟨os, hos, hcs, hds⟩ := id hs
  unfold Builtin.Slice.sliceApplied Builtin.Slice.sliceFields
  refine wpAny_bind (wpAny_bind (wpAny_field hos hds (x := .none) rfl (wpAny_bind (wpAny_field hos hds (x := .none) rfl (wpAny_bind (wpAny_field hos hds (x := vk) rfl (wpAny_pure ?_)))))))
  refine wpAny_bind (HT.slicePart_ pk ?_)
  show wpAny _ _ (if ((-1 : Int) == 0) = true then _ else _) _ _ s
  rw [if_neg (by decide)]
  refine wpAny_bind (PyProof.Rows.slicePart_none (wpAny_bind (PyProof.Rows.slicePart_none (wpAny_bind (wpAny_pure ?_)))))
  show wpAny _ _ (pure ((n : Int) - 1, (-1 : Int), Builtin.Slice.slicePlaces ((n : Int) - 1) (-1) (-1))) _ _ s
  have e : Builtin.Slice.slicePlaces ((n : Int) - 1) (-1) (-1) = n := by
    unfold Builtin.Slice.slicePlaces
    rw [if_neg (by decide)]
    by_cases h0 : n = 0
    · subst h0; decide
    · rw [if_pos (by omega), show (-(-1) : Int) = 1 by decide, Int.ediv_one]; omega
  rw [e]; exact wpAny_pure h
theorem pick_rev (as : Array Value) : ((List.range as.size).filterMap fun (k : Nat) => as[((as.size : Int) - 1 + (k : Int) * (-1)).toNat]?).toArray = as.toList.reverse.toArray := by
  have e : (fun (k : Nat) => as[((as.size : Int) - 1 + (k : Int) * (-1)).toNat]?) = (fun m => as[m]?) ∘ fun k => as.size - 1 - k := by
    funext k
    show as[((as.size : Int) - 1 + (k : Int) * (-1)).toNat]? = as[as.size - 1 - k]?
    rw [show ((as.size : Int) - 1 + (k : Int) * (-1)).toNat = as.size - 1 - k by omega]
  rw [e, ← List.filterMap_map, PySem.W.krv_range, List.filterMap_reverse, PySem.W.krv_all]
theorem getItem_rev {t sl : Addr} {as : Array Value} {vk : Value} {Q : Value → Shared → Prop} (ht : IsTup s.heap t as) (hs : s.heap.IsSliceOf sl .none .none vk) (pk : IsPart vk (some (-1))) (hsz : as.size ≤ sizeLine)
    (h : Q (.ref s.heap.objs.size) { s with heap := s.heap.push { cls := .type "tuple", data := .seq as.toList.reverse.toArray } }) : wpAny (model P w) A (getItem (.ref t) (.ref sl)) Q E s := by
  have hts : sizeOk (.seq as.toList.reverse.toArray) := by show as.toList.reverse.toArray.size ≤ sizeLine; simpa using hsz
  obtain ⟨os, hos, hcs, hds⟩ := id hs
  have ty : s.TypeIs (.ref sl) "slice" := ⟨os, hos, hcs⟩
  unfold getItem
  try with_reducible refine wpAny_holding ?_
  first | refine wpAny_bind (wpAny_pure ?_) | skip
  refine wpAny_bind (wpAny_sequenceKey ht.typeIs (by decide) ?_)
  refine wpAny_bind (wpAny_callSpecial?_slot (name := Str.ofString "__getitem__") ht.typeIs PyProof.Rows.slot_tuple_getitem (wpAny_call_entry PyProof.Rows.slot_tuple_getitem ht.typeIs PyProof.Rows.entry_tuple_getitem ?_ (PyProof.Rows.args_tuple_getitem _ _)))
  show wpAny _ _ (Builtin.Tuple.tupleItemsOf (.ref t) >>= _) _ _ s
  refine wpAny_bind (tupleItemsOf_ ht ?_); refine wpAny_bind (wpAny_typeOf ty ?_)
  rw [if_pos (by decide)]
  refine wpAny_bind (applied_rev hs pk ?_)
  show wpAny _ _ (if (((as.size : Int) - 1) == 0 && (-1 : Int) == 1 && as.size == as.size) = true then _ else _) _ _ s
  rw [if_neg (by simp), pick_rev]
  first
    | exact wpAny_bind (m := Builtin.Tuple.tupleExact _) (wpAny_newObj_type (wpAny_pure ⟨_, rfl, wpAny_pure h⟩) hts)
    | exact wpAny_bind (m := Builtin.Tuple.tupleExact _) (wpAny_newObj_type (wpAny_bind (wpAny_pure (wpAny_pure ⟨_, rfl, wpAny_pure h⟩))) hts)
    | exact wpAny_bind (wpAny_bind (m := Builtin.Tuple.tupleExact _) (wpAny_newObj_type (wpAny_pure (wpAny_pure ⟨_, rfl, wpAny_pure h⟩)) hts))
    | exact wpAny_bind (wpAny_bind (m := Builtin.Tuple.tupleExact _) (wpAny_newObj_type (wpAny_pure ⟨_, rfl, wpAny_pure h⟩) hts))
end
def tRevT (K : PySem.W.Frag) (te : TE) : TE := fun σ H Q => te σ H fun x H1 => ∃ a xs, x = .ref a ∧ SqT K H1 a xs ∧ ∀ p, H1 p = none → Q (.ref p) (upd H1 p (.tup xs.reverse))
theorem pe_revT {e : Expr} {te : TE} {k : Nat} {p1 p2 p3 pos : Pos} (he : PE X e te) : PE X (.Subscript e (.Slice none none (some (.UnaryOp .USub (.Constant (.int 1) k p1) p2)) p3) pos) (tRevT X.K te) := by
  refine ⟨fun pins s σ H Q I h => Subscript_ (thn (he.run pins s σ H _ I h) fun v s1 ⟨x, H1, I1, r1, q1⟩ => ?_)⟩
  obtain ⟨a, xs, rfl, hx, q⟩ := q1
  cases r1
  have hst : PO X (some (.UnaryOp .USub (.Constant (.int 1) k p1) p2)) (tPart (tUn (rU fun i => .int (-i)) (tC (.int 1)))) := po_some (pe_un un_neg pe_int)
  refine wpAny_Slice (thn (po_none.run pins s1 σ H1 (fun o H2 => o = none ∧ H2 = H1) I1 ⟨rfl, rfl⟩) fun vl s2 ⟨l, H2, I2, pl, el, e2⟩ => ?_); subst el e2
  refine thn (po_none.run pins s2 σ H2 (fun o H3 => o = none ∧ H3 = H2) I2 ⟨rfl, rfl⟩) fun vu s3 ⟨u, H3, I3, pu, eu, e3⟩ => ?_; subst eu e3
  refine thn (hst.run pins s3 σ H3 (fun o H4 => o = some (-1) ∧ H4 = H3) I3 ⟨1, rfl, -1, rfl, rfl, rfl⟩) fun vs s4 ⟨o, H4, I4, ps, eo, e4⟩ => ?_; subst eo e4
  have I5 : Inv X pins σ H4 { s4 with heap := s4.heap.push { cls := .type "slice", data := .fields #[vl, vu, vs] } } := I4.kept (t' := s4.toks) fun b ob q => Heap.get?_push_of_some _ q
  obtain ⟨its, r, ht, hz⟩ := I5.tuple hx
  have hlen := r.length
  cases pl; cases pu
  show wpAny (model X.prog X.w) X.A (subscriptTail e (.Slice none none (some (.UnaryOp .USub (.Constant (.int 1) k p1) p2)) p3) (.ref a) (.ref s4.heap.objs.size)) (EP X pins σ Q) X.xe { s4 with heap := s4.heap.push { cls := .type "slice", data := .fields #[.none, .none, vs] } }
  refine tail_any (ops := [.ref a, .ref s4.heap.objs.size]) ht.typeIs (PyProof.Rows.slot_tuple_getitem.lookup) ?_ (by with_unfolding_all rfl)
  refine getItem_rev ht (Heap.IsSliceOf.new _ .none .none vs) ps (by rw [List.size_toArray]; omega) ?_
  refine ⟨.ref _, _, I5.laid (t' := s4.toks) (o := .tup xs.reverse) (fun b ob q => Heap.get?_push_of_some _ q) (Nat.le_refl _) ?_, rfl, q _ (I5.hok.fresh (Nat.le_refl _))⟩
  exact ⟨by rw [List.length_reverse]; exact hz, _, r.reverse, ⟨_, Heap.get?_push_size _ rfl, rfl, _, rfl⟩⟩
end
end K21

set_option maxRecDepth 100000
set_option maxHeartbeats 2000000
namespace K21
open PySem PySem.Spec PyProof.Rows L2 RZ
/-! ### enumerate(tuple) -/
theorem new_enumB {v : Value} {o : Obj} {Hh : Heap → Prop} (B : Begins v o Hh) : Meets (Builtin.«enumerate.__new__» ⟨[.type "enumerate", v], []⟩) (fun _ R s => Hh s.heap ∧
      R (.ok (.ret (.ref (s.heap.push o).objs.size))) { s with heap := (s.heap.push o).push { cls := .type "enumerate", data := .fields #[.none, .bool false, .ref s.heap.objs.size, rawInt 0, .none, .none] } }) :=
  .of_wp fun P w A R s h => by
    obtain ⟨hp, g, d, tk, os⟩ := s; obtain ⟨h1, h⟩ := h
    have hsub := sub_enumerate
    have q1 : ∀ {A' : Around} {E : Value → Shared → Prop} {Q : Value → Shared → Prop}, Q (.ref hp.objs.size) ⟨hp.push o, g, d, tk, os⟩ → wpAny (model P w) A' (pyIter v) Q E ⟨hp, g, d, tk, os⟩ := fun q => B.iter P w _ _ ⟨hp, g, d, tk, os⟩ _ h1 q
    wp_walk using q1
    refine wpAny_stack_any fun st => wpAny_pure ?_
    split
    · rename_i c _ _ _ _ _
      cases (c == Value.type "enumerate") <;> (wp_walk using q1; exact ⟨_, rfl, h⟩)
    · wp_walk using q1
      exact ⟨_, rfl, h⟩
section
variable {P : Program} {w : World} {A : Around} {E : Value → Shared → Prop} {s : Shared}
theorem call_enumT {t : Addr} {its : Array Value} {Q : Value → Shared → Prop} (ht : s.heap.IsTuple t its)
    (h : ∀ h', IsEnum h' (s.heap.objs.size + 1) s.heap.objs.size 0 .none → h'.IsTupleIter s.heap.objs.size t 0 → (∀ b o, s.heap.get? b = some o → h'.get? b = some o) → Q (.ref (s.heap.objs.size + 1)) { s with heap := h' }) :
    wpAny (model P w) A (call (.type "enumerate") [.ref t]) Q E s := by
  refine callType_new F.called_enumerate (by decide) (F.typeCall_enumerate_1 _) (F.newCall_enumerate_1 _) (fun obj => F.args_object_init_2 obj _) F.entry_enumerate_new (new_enumB (begins_tuple t its)) ⟨ht, ?_⟩
  have ez : (s.heap.push { cls := .type "tuple_iterator", data := .fields #[.ref t, .int 0 0] }).objs.size = s.heap.objs.size + 1 := Heap.size_push ..
  show _ ∧ _
  rw [ez]
  have he := Heap.get?_push_size (s.heap.push { cls := .type "tuple_iterator", data := .fields #[.ref t, .int 0 0] }) (o := { cls := .type "enumerate", data := .fields #[.none, .bool false, .ref s.heap.objs.size, rawInt 0, .none, .none] }) rfl
  rw [ez] at he
  exact ⟨⟨_, he, rfl⟩, h _ he ⟨_, Heap.get?_push_of_some _ (Heap.get?_push_size _ rfl), rfl, rfl⟩ fun b o x => Heap.get?_push_of_some _ (Heap.get?_push_of_some _ x)⟩
end
def IteT (K : PySem.W.Frag) (a : Addr) : It :=
  ⟨fun i H => ∃ (xs : List V) (x : V), SqT K H a xs ∧ xs[i]? = some x, fun i H v H' => ∃ T x, v = .ref T ∧ H T = none ∧ H' = upd H T (.tup [.int (i : Nat), x]) ∧ ∀ xs, SqT K H a xs → xs[i]? = some x, fun i H => ∃ xs : List V, SqT K H a xs ∧ xs.length ≤ i⟩
theorem turn_enumT {P : Program} {w : World} {K : PySem.W.Frag} {elts : List Expr} {kk : Nat} {tpos : Pos} (a e it : Addr) :
    Turn P w K (.Tuple elts kk tpos) (IteT K a) [e, it] e (fun i h => (∃ old, IsEnum h e it ((i : Nat) : Int) old) ∧ h.IsTupleIter it a i ∧ e ≠ it) where
  mem := by simp
  obj := fun i h st b hb => by
    obtain ⟨⟨old, he⟩, ⟨o, ho, hc, hd⟩, _⟩ := st
    have eb : b = e ∨ b = it := by simpa using hb
    rcases eb with y | y <;> rw [y]
    · exact ⟨_, he, fun v q => nomatch q⟩
    · exact ⟨o, ho, fun v q => by rw [hd] at q; cases q⟩
  keep := fun i h h' st k => let ⟨⟨old, he⟩, hi, ne⟩ := st; ⟨⟨old, k e (by simp) _ he⟩, hi.at fun o q => k it (by simp) o q, ne⟩
  item := by
    intro X hP hw hK hc i pins s σ H E I hf st hg
    subst hP hw hK
    obtain ⟨⟨old, he⟩, hit, ne⟩ := st
    obtain ⟨xs, x, hq, hx⟩ := hg
    obtain ⟨its, rv, p, hz⟩ := I.tuple hq
    obtain ⟨u, hu, ru⟩ := rv.get hx
    have hel : e < s.heap.objs.size := Heap.lt_size he
    have hil : it < s.heap.objs.size := by obtain ⟨_, q, _⟩ := hit; exact Heap.lt_size q
    have nae : a ≠ e := fun z => by obtain ⟨o, ho, hc2, _⟩ := id p; rw [z, he] at ho; cases ho; exact absurd hc2 (by simp)
    have nai : a ≠ it := fun z => by obtain ⟨o, ho, hc2, _⟩ := id p; obtain ⟨o2, ho2, hc3, _⟩ := id hit; rw [z, ho2] at ho; cases ho; rw [hc3] at hc2; exact absurd hc2 (by simp)
    have hun : its.toArray[i]? = some u := by simpa using hu
    have hlt : i < its.toArray.size := (Array.getElem?_eq_some_iff.mp hun).1
    have hd0 : X.A.in1.handled = none := I.ok.hd hc
    refine wpAny_pyNext_enum_itemD (Draws.tuple hd0 it a nai its.toArray) he ⟨hit, p⟩ hlt ne (by simp [ne, Ne.symm nae]) fun u' h' tk hP2 ho st2 hT hsz hk => ?_
    have eu : u' = u := by rw [hun] at hP2; exact (Option.some.inj hP2).symm
    subst eu
    obtain ⟨hit', _⟩ := st2
    refine ⟨_, rfl, wpAny_letOwnedTupleGo_enum (s := { s with heap := h', toks := tk + 1 }) ho fun h'' he' sb => ?_⟩
    have hT2 : h''.get? s.heap.objs.size = some { cls := .type "tuple", data := .seq #[.int i tk, u'] } := (sb.2 _ (Nat.ne_of_gt hel)).trans hT
    have new : ObjOk X.prog X.w (upd H s.heap.objs.size (.tup [.int (i : Nat), x])) h'' s.heap.objs.size (.tup [.int (i : Nat), x]) := ⟨by show 2 ≤ sizeLine; decide, [.int i tk, u'], .cons ⟨_, rfl⟩ (.cons ru .nil), ⟨_, hT2, rfl, _, rfl⟩⟩
    have I1 : Inv X pins σ (upd H s.heap.objs.size (.tup [.int (i : Nat), x])) { s with heap := h'', toks := tk + 1 } :=
      I.turnedNew (ch := [e, it]) (fun b ob hb q => (sb.2 b (fun z => hb (by simp [z]))).trans (hk b ob (fun z => hb (by simp [z])) (fun z => hb (by simp [z])) q)) hf (Nat.le_refl _) new
    refine ⟨.ref s.heap.objs.size, _, I1, rfl, ⟨_, x, rfl, I.hok.fresh (Nat.le_refl _), rfl, fun ys hy => by rw [I.tuple_inj hy hq]; exact hx⟩, ⟨⟨u', ?_⟩, hit'.at fun o q => (sb.2 it (Ne.symm ne)).trans q, ne⟩, fun b hb => ?_⟩
    · rw [show ((i + 1 : Nat) : Int) = (i : Int) + 1 by omega]; exact he'
    · have eb : b = e ∨ b = it := by simpa using hb
      have hb' : b < s.heap.objs.size := by rcases eb with y | y <;> rw [y] <;> assumption
      rw [upd_ne (Nat.ne_of_lt hb')]; exact (hf b hb).1
  done := by
    intro X hP hw hK hc i pins s σ H E I hf st hg
    subst hP hw hK
    obtain ⟨⟨old, he⟩, hit, ne⟩ := st
    obtain ⟨xs, hq, hx⟩ := hg
    obtain ⟨its, rv, p, hz⟩ := I.tuple hq
    obtain ⟨f0, f1, f2, f3, f4, f5⟩ := hf it (by simp)
    have hl := rv.length
    have hd0 : X.A.in1.handled = none := I.ok.hd hc
    have hend : its.toArray[i]? = none := Array.getElem?_eq_none (by simp; omega)
    have nai : a ≠ it := fun z => by obtain ⟨o, ho, hc2, _⟩ := id p; obtain ⟨o2, ho2, hc3, _⟩ := id hit; rw [z, ho2] at ho; cases ho; rw [hc3] at hc2; exact absurd hc2 (by simp)
    have hT : s.TypeIs (.ref e) "enumerate" := ⟨_, he, rfl⟩
    unfold pyNext
    refine wpAny_bind (wpAny_attempt (wpAny_callSpecial?_slot (name := Str.ofString "__next__") hT F.slot_enumerate_next (wpAny_call_entry F.slot_enumerate_next hT F.entry_enumerate_next ?_ (F.args_enumerate_next_1 _))))
    show wpAny _ _ (field (.ref e) 2 >>= _) _ _ _; refine wpAny_bind (wpAny_field he rfl (x := .ref it) rfl ?_)
    refine wpAny_bind (nextOf_tuple_end hd0 hit p hend fun h' x eb hx' => ?_)
    obtain ⟨o, ho, hc⟩ := hx'
    refine wpAny_bind (wpAny_isInstance (T := "StopIteration") (b := true) ⟨o, ho, hc⟩ isSubtype_stop (wpAny_pure ?_))
    exact ⟨rfl, I.turned (t' := s.toks) (fun b o hb q => eb b o hb q) f0 f1 f3 f4 f5⟩
  self := fun A i s Q E st h => let ⟨⟨_, he⟩, _⟩ := st; wpAny_pyIter_enum he h
def iEnumT (K : PySem.W.Frag) (ta : TA) : TI := fun σ H R => ta σ H fun vs H1 => ∃ a xs, vs = [.ref a] ∧ SqT K H1 a xs ∧ R (IteT K a) H1
theorem pi_enumT {X : Cx} {e : Expr} {ta : TA} {p pos tpos : Pos} {elts : List Expr} {kk : Nat} (hg : Gl X "enumerate") (hm : X.mg "enumerate" = none) (ha : PA X [e] ta) (hs : starEach [e] X.env = [(false, eval e X.env)] := by rfl) :
    PI X (.Tuple elts kk tpos) (.Call (.Name "enumerate" p) [e] [] pos) (iEnumT X.K ta) := by
  refine ⟨fun pins s σ H R I h => Call_ (ld_blt I hg hm boot_enumerate (PyProof.Rows.callWith_type1 (thn (ha.run pos pins s σ H _ I h) fun us s1 ⟨vs, H1, I1, r1, q1⟩ => ?_) hs rfl))⟩
  obtain ⟨a, xs, rfl, hq, q⟩ := q1
  cases r1 with
  | cons r rr =>
    cases rr; cases r
    obtain ⟨its, rv, p', hz⟩ := I1.tuple hq
    refine call_enumT (show s1.heap.IsTuple a its.toArray from p') fun h' he hit hk => wpAny_pyIter_enum he ?_
    have I2 : Inv X pins σ H1 { s1 with heap := h' } := I1.kept (t' := s1.toks) hk
    refine ⟨s1.heap.objs.size + 1, [s1.heap.objs.size + 1, s1.heap.objs.size], _, _, H1, rfl, I2, turn_enumT a (s1.heap.objs.size + 1) s1.heap.objs.size, ⟨⟨.none, he⟩, hit, Nat.succ_ne_self _⟩, fun b hb => ?_, q⟩
    have hle : s1.heap.objs.size ≤ b := by
      have eb : b = s1.heap.objs.size + 1 ∨ b = s1.heap.objs.size := by simpa using hb
      rcases eb with y | y <;> rw [y]
      · exact Nat.le_add_right _ _
      · exact Nat.le_refl _
    exact I1.fpOk hle (I1.hok.fresh hle)
theorem for_enumT {K : PySem.W.Frag} {a : Addr} {xs : List V} {g : TG} {tb : TS} {D : Ends} {σ : L2.St} {H : Hp} (Pv : Nat → L2.St → Hp → Prop) (h0 : Pv 0 σ H) (hq : ∀ i σ H, Pv i σ H → SqT K H a xs)
    (hs : ∀ (i : Nat) (x : V) (T : Addr) (σ : L2.St) (H : Hp), xs[i]? = some x → Pv i σ H → H T = none → g (.ref T) σ (upd H T (.tup [.int (i : Nat), x])) fun σ2 H2 => tb { D with nx := Pv (i + 1), ct := Pv (i + 1), bk := D.nx } σ2 H2) (hd : ∀ σ H, Pv xs.length σ H → D.nx σ H) :
    ∃ W : Nat → Nat → L2.St → Hp → Prop, (∃ m, W 0 m σ H) ∧ ∀ i m σ H, W i m σ H →
      ((IteT K a).stop i H ∧ D.nx σ H) ∨ ((IteT K a).go i H ∧ ∃ N : L2.St → Hp → Prop, (∀ σ' H', N σ' H' → ∃ m', m' < m ∧ W (i + 1) m' σ' H') ∧ ∀ v H', (IteT K a).yld i H v H' → g v σ H' fun σ2 H2 => tb { D with nx := N, ct := N, bk := D.nx } σ2 H2) := by
  refine ⟨fun i m σ H => m = xs.length - i ∧ i ≤ xs.length ∧ Pv i σ H, ⟨xs.length, rfl, Nat.zero_le _, h0⟩, fun i m σ H => ?_⟩
  rintro ⟨rfl, hi, p⟩
  have qx := hq i σ H p
  by_cases hlt : i < xs.length
  · refine .inr ⟨⟨xs, _, qx, List.getElem?_eq_getElem hlt⟩, Pv (i + 1), fun σ' H' p' => ⟨xs.length - (i + 1), by omega, rfl, hlt, p'⟩, fun v H' y => ?_⟩
    obtain ⟨T, x', rfl, hT, rfl, f1⟩ := y
    exact hs i x' T σ H (f1 xs qx) p hT
  · obtain rfl : i = xs.length := by omega
    exact .inl ⟨⟨xs, qx, Nat.le_refl _⟩, hd σ H p⟩
theorem for_enumL {K : PySem.W.Frag} {a : Addr} {xs : List V} {g : TG} {tb : TS} {D : Ends} {σ : L2.St} {H : Hp} (Pv : Nat → L2.St → Hp → Prop) (h0 : Pv 0 σ H) (hq : ∀ i σ H, Pv i σ H → SqL K H a xs)
    (hs : ∀ (i : Nat) (x : V) (T : Addr) (σ : L2.St) (H : Hp), xs[i]? = some x → Pv i σ H → H T = none → g (.ref T) σ (upd H T (.tup [.int (i : Nat), x])) fun σ2 H2 => tb { D with nx := Pv (i + 1), ct := Pv (i + 1), bk := D.nx } σ2 H2) (hd : ∀ σ H, Pv xs.length σ H → D.nx σ H) :
    ∃ W : Nat → Nat → L2.St → Hp → Prop, (∃ m, W 0 m σ H) ∧ ∀ i m σ H, W i m σ H →
      ((Ite K a).stop i H ∧ D.nx σ H) ∨ ((Ite K a).go i H ∧ ∃ N : L2.St → Hp → Prop, (∀ σ' H', N σ' H' → ∃ m', m' < m ∧ W (i + 1) m' σ' H') ∧ ∀ v H', (Ite K a).yld i H v H' → g v σ H' fun σ2 H2 => tb { D with nx := N, ct := N, bk := D.nx } σ2 H2) := by
  refine ⟨fun i m σ H => m = xs.length - i ∧ i ≤ xs.length ∧ Pv i σ H, ⟨xs.length, rfl, Nat.zero_le _, h0⟩, fun i m σ H => ?_⟩
  rintro ⟨rfl, hi, p⟩
  have qx := hq i σ H p
  by_cases hlt : i < xs.length
  · refine .inr ⟨⟨xs, _, qx, List.getElem?_eq_getElem hlt⟩, Pv (i + 1), fun σ' H' p' => ⟨xs.length - (i + 1), by omega, rfl, hlt, p'⟩, fun v H' y => ?_⟩
    obtain ⟨T, x', rfl, hT, rfl, f1⟩ := y
    exact hs i x' T σ H (f1 xs qx) p hT
  · obtain rfl : i = xs.length := by omega
    exact .inl ⟨⟨xs, qx, Nat.le_refl _⟩, hd σ H p⟩
end K21

set_option maxRecDepth 100000
set_option maxHeartbeats 4000000
namespace K21
open PySem PySem.Spec PyProof.Rows L2 PySem.W PySem.Calls
/-! isinstance of a caught error whose own dict stands -/
section
variable {prog : Program} {w : World} {A : Around} {E : Value → Shared → Prop} {s : Shared} {K : Frag} {x D : Addr} {ox : Obj} {od : Option Obj}
theorem find_cls (hc : (clsIn K D).isSome = true) (C : L2.ExcC K D) : findObj K D od "__class__" = some (.bind (.builtin "getset_descriptor.__get__") (.builtin "object.__class__")) := by
  obtain ⟨cd, e⟩ := Option.isSome_iff_exists.mp hc
  unfold findObj
  rw [e, Option.bind_some, C.ha, Option.bind_some]; simp [C.hn, C.ht]
theorem ask_cls {Q : Option Value → Shared → Prop} (C : L2.ExcC K D) (X : K.In s.heap) (I : InstAt s.heap x ox D od) (h : Q (some (.ref D)) { s with toks := s.toks + 1 }) :
    wpAny (model prog w) A (getAttr? (.ref x) "__class__") Q E s := by
  have hf := find_cls (od := od) (by obtain ⟨c0, e0, _⟩ := any_some C.hd; rw [e0]; rfl) C
  obtain ⟨hp, g, dr, tk, os⟩ := s
  have A0 := I.type (M := model prog w); have A1 := looks_findIn (M := model prog w) X C.hg; have A2 := looks_findIn (M := model prog w) X C.hk
  have A3 := looks_find (M := model prog w) X I hf; have A4 : Looks (model prog w) hp (isInstance (.ref x) (.type "BaseException")) true := A0.andThen (looks_subIn X C.hs)
  have b0 : (false && onTheHeap (Value.builtin "BaseException.__getattribute__")) = false := rfl
  have b2 : (Value.builtin "BaseException.__getattribute__" == Value.builtin "object.__getattribute__") = false := by decide +kernel
  have b1 : (onTheHeap (Value.ref D) && Value.builtin "BaseException.__getattribute__" == Value.builtin "object.__getattribute__") = false := by rw [b2]; rfl
  unfold getAttr? getAttrBy? getAttrBy
  refine wpAny_bind (wpAny_mkText (wpAny_bind (wpAny_attempt (wpAny_holding (wpAny_bind (A0.at (wpAny_bind (A1.at ?_))))))))
  show wpAny _ _ (if (onTheHeap (Value.ref D) && Value.builtin "BaseException.__getattribute__" == Value.builtin "object.__getattribute__") = true then _ else _) _ _ _
  rw [b1, if_neg Bool.false_ne_true]; unfold getAttrByItsOwn hookBefore
  refine wpAny_bind ?_; rw [if_pos (show onTheHeap (Value.ref D) = true from rfl)]; refine A2.at ?_
  refine wpAny_bind (wpAny_attempt (wpAny_holding ?_)); unfold callGetattribute; rw [b0, if_neg Bool.false_ne_true]; unfold boundAndCalled
  rw [PySem.F.excAttr_ValueError.ga.bind (.ref x)]; refine wpAny_bind (wpAny_pure ?_)
  show wpAny _ _ (call (.builtin "BaseException.__getattribute__") [.ref x, .str "__class__" tk]) _ _ _
  refine wpAny_call (codeAny_call_builtin PySem.F.excAttr_ValueError.ga.plain PySem.F.entry_bexc_ga ?_)
  refine @check_slot (model prog w) _ _ ⟨hp, g, dr, tk + 1, os⟩ "BaseException.__getattribute__" "BaseException" "__getattribute__" (.ref x) [.str "__class__" tk] [] _ (by decide +kernel) (by decide +kernel) A4 (PySem.F.args_bexc_ga (.ref x) (.str "__class__" tk)) ?_
  unfold Builtin.«object.__getattribute__»; refine wpAny_bind (wpAny_of_eq (a := ((Value.ref x : Value), [Value.str "__class__" tk])) (by first | rfl | (simp only [slotArgs]; rfl)) ?_)
  refine wpAny_bind (wpAny_pure (wpAny_bind (A0.at (wpAny_bind (A3.at ?_)))))
  show wpAny _ _ (holding [Value.builtin "object.__class__"] (call (.builtin "getset_descriptor.__get__") [.builtin "object.__class__", .ref x, .ref D]) >>= ret) _ _ _
  refine wpAny_bind (wpAny_holding (wpAny_call (class_get (s := ⟨hp, g, dr, tk + 1, os⟩) (ox := ox) (od := od) X I C.hm ?_))); refine wpAny_pure ?_
  show wpAny _ _ (handedOut (.ref D)) _ _ _; rw [handedOut_of (v := .ref D) rfl]
  first | exact wpAny_pure (wpAny_pure h) | exact wpAny_pure h | exact wpAny_pure (wpAny_bind (wpAny_pure (wpAny_pure h)))
theorem kit_err (C : L2.ExcC K D) : KitX K (.ref x) (.ref D) (fun h => InstAt h x ox D od) := by
  obtain ⟨cd, hc, _⟩ := any_some C.hd
  refine ⟨fun _ _ _ I => I.type, fun M h X _ => ?_, fun h tp dd its n sl X htp => ?_, fun X I k => ask_cls C X I k⟩
  · unfold clsIn at hc
    split at hc
    · rename_i o1 o2 o3 o4 ho
      intro A' Q' E' s' k q; unfold isType loadHead; exact wpAny_bind (wpAny_loadPart (k _ _ (X _ _ ho)) (wpAny_pure q))
    · cases hc
  · refine Bool.eq_false_iff.mpr fun q => ?_
    have e : D = tp := Value.ref.inj (beq_iff_eq.mp q); subst e
    unfold clsIn at hc
    split at hc
    · rename_i o1 o2 o3 o4 ho
      have z := (X _ _ ho).symm.trans htp; cases z
    · cases hc
end
/-- isinstance(e, c), e the caught error at a, of class D, its own dict at dd -/
def rIsD (K : PySem.W.Frag) (D a : Addr) (cls : Value) (d : Option Addr) : List V → Hp → VK → Prop := fun xs H Q => ∃ (c : V) (cv : Value) (b : Bool) (dd : Addr) (fs : List (Str × V)),
  cls = .ref D ∧ xs = [.ref a, c] ∧ (∀ u, RelV c u → u = cv) ∧ kitOne K (.ref D) cv = some b ∧ d = some dd ∧ H dd = some (.xd fs) ∧ Q (.bl b) H
theorem call_isD {X : Cx} {a D : Addr} {oe : Obj} {cls : Value} {d : Option Addr} {pn : List (Addr × Obj)} (C : ExcC X.K D) (hz : Zc cls d oe) (hf : ∃ vs, oe.data = .fields vs) : CallR (X.suite a ((a, oe) :: pn)) (.builtin "isinstance") (rIsD X.K D a cls d) := by
  intro pins s σ H xs us Q I r h
  obtain ⟨c, cv, b, dd, fs, ecl, rfl, hcv, e, ed, ea, q⟩ := h
  subst ecl
  subst ed
  obtain ⟨u1, u2, rfl, r1, r2⟩ := vals2 r
  obtain rfl : u1 = Value.ref a := r1
  have ec := hcv _ r2; subst ec
  obtain ⟨hget, _⟩ := I.pin (a, oe) (List.mem_append_left _ List.mem_cons_self)
  obtain ⟨vs, hv⟩ := hf
  have hx : ObjOk X.prog X.w H s.heap dd (.xd fs) := I.hok dd _ ea
  obtain ⟨mA, hns, hr⟩ := hx
  obtain ⟨od, ho, hl⟩ := lookIn_ns hns
  have J : InstAt s.heap a oe D (some od) := ⟨hget, hz.1, by unfold PySem.W.notCls; rw [hv] <;> rfl, by rw [hz.2]; exact ho⟩
  exact kia_one (kit_err C) I.kIn J e (fun z => nomatch z) fun tk => ⟨.bl b, H, I.kept (t' := tk) fun _ _ z => z, rfl, q⟩
open L2
/-- tuples stay -/
def SameT (H H' : Hp) : Prop := ∀ a xs, H a = some (.tup xs) → H' a = some (.tup xs)
theorem SameT.refl (H : Hp) : SameT H H := fun _ _ h => h
theorem SameT.trans {H H1 H2 : Hp} (a : SameT H H1) (b : SameT H1 H2) : SameT H H2 := fun x xs h => b x xs (a x xs h)
theorem SameT.new {H : Hp} {p : Addr} {o : HO} (h : H p = none) : SameT H (upd H p o) := fun a xs e => by
  rw [upd_ne (ne_of_none e h)]; exact e
theorem SameT.lst {H : Hp} {p : Addr} {o : HO} {ys : List V} (h : H p = some (.lst ys)) : SameT H (upd H p o) := fun a xs e => by
  rw [upd_ne (ne_of e h (by intro z; cases z))]; exact e
/-- plain data: None, ints, texts, tuples of such -/
inductive Is (H : Hp) : V → PyData → Prop
  | non : Is H .non .none
  | int (i : Int) : Is H (.int i) (.int i)
  | str (z : Str) : Is H (.str z) (.str z)
  | tup {a : Addr} {xs : List V} {ds : List PyData} (h : H a = some (.tup xs)) (hl : xs.length = ds.length)
      (hi : ∀ (i : Nat) (v : V) (d : PyData), xs[i]? = some v → ds[i]? = some d → Is H v d) : Is H (.ref a) (.tuple ds)
theorem Is.mono {H H' : Hp} (s : SameT H H') {v : V} {d : PyData} (h : Is H v d) : Is H' v d := by
  induction h with
  | non => exact .non
  | int i => exact .int i
  | str z => exact .str z
  | tup h hl hi ih => exact .tup (s _ _ h) hl ih
theorem Is.pair {H : Hp} {a : Addr} {x y : V} {d e : PyData} (h : H a = some (.tup [x, y])) (hx : Is H x d) (hy : Is H y e) : Is H (.ref a) (.tuple [d, e]) := by
  refine .tup h rfl fun i v c h1 h2 => ?_
  match i with
  | 0 => simp at h1 h2; subst h1 h2; exact hx
  | 1 => simp at h1 h2; subst h1 h2; exact hy
  | i + 2 => simp at h1
theorem Is.ints {H : Hp} {a : Addr} {ns : List Int} (h : H a = some (.tup (ns.map V.int))) : Is H (.ref a) (.tuple (ns.map PyData.int)) := by
  refine .tup h (by simp) fun i v d h1 h2 => ?_
  rw [List.getElem?_map] at h1 h2
  cases e : ns[i]? with
  | none => rw [e] at h1; cases h1
  | some n => rw [e] at h1 h2; cases h1; cases h2; exact .int n
theorem same_new {H : Hp} {p : Addr} {o : HO} (h : H p = none) : Same H (upd H p o) := fun b x e => by
  rw [upd_ne (ne_of_none e h)]; exact e
theorem Same.tups {H H' : Hp} (s : Same H H') : SameT H H' := fun a xs e => s _ _ e
theorem dp_ints {K : PySem.W.Frag} {H : Hp} : ∀ ns : List Int, DpAll K H (ns.map V.int) (ns.map PyData.int)
  | [] => .nil
  | n :: ns => .cons (.int n) (dp_ints ns)
theorem same_at {H H' : Hp} {o : Addr} {x : HO} (s : Same H H') (h : H o = none) : Same H (upd H' o x) := fun b z e => by
  rw [upd_ne (ne_of_none e h)]; exact s b z e
theorem map_snoc (rs : List Int) (r : Int) : rs.map V.int ++ [V.int r] = (rs ++ [r]).map V.int := by rw [List.map_append]; rfl
/-! the text -/
def topS (i : Nat) : Stmt := PySem.Challenge.pw_laidforall_k21_first_bad_edge.main.body.getD i (.Pass ⟨0, 0, 0, 0⟩)
abbrev sInit : Stmt := inClass (topS 3) 0
abbrev sEdges : Stmt := topS 6
abbrev sIsEdge : Stmt := topS 7
abbrev sCheck : Stmt := topS 8
abbrev sCell : Stmt := topS 10
abbrev sRow : Stmt := topS 11
abbrev sSame : Stmt := topS 12
abbrev sReach : Stmt := topS 13
abbrev sRing : Stmt := topS 14
abbrev sSpoilt : Stmt := topS 15
abbrev sFirst : Stmt := topS 16
abbrev sTold : Stmt := topS 17
abbrev sLaw : Stmt := topS 18
/-- what the top has left -/
structure Blt (mg : Str → Option Value) : Prop where
  len : mg "len" = none
  int : mg "int" = none
  str : mg "str" = none
  bool : mg "bool" = none
  tuple : mg "tuple" = none
  list : mg "list" = none
  abs : mg "abs" = none
  zip : mg "zip" = none
  enumerate : mg "enumerate" = none
  range : mg "range" = none
  isi : mg "isinstance" = none
  ve : mg "ValueError" = none
end K21

set_option maxRecDepth 100000
set_option maxHeartbeats 4000000
namespace K21
open PySem PySem.Spec PyProof.Rows L2
abbrev Pt := Int × Int
def ab (i : Int) : Int := if i < 0 then -i else i
def okE (p q : Pt) : Bool := !(decide (ab (q.1 - p.1) = 0) && decide (ab (q.2 - p.2) = 0)) && (decide (ab (q.1 - p.1) = 0) || (decide (ab (q.2 - p.2) = 0) || decide (ab (q.1 - p.1) = ab (q.2 - p.2))))
def IsP (H : Hp) (v : V) (p : Pt) : Prop := ∃ a, v = .ref a ∧ H a = some (.tup [.int p.1, .int p.2])
theorem IsP.mono {H H' : Hp} (s : Same H H') {v : V} {p : Pt} (h : IsP H v p) : IsP H' v p := let ⟨a, e, h⟩ := h; ⟨a, e, s _ _ h⟩
/-- a row of points -/
def AllP (H : Hp) (xs : List V) (ps : List Pt) : Prop := xs.length = ps.length ∧ ∀ (i : Nat) (v : V) (p : Pt), xs[i]? = some v → ps[i]? = some p → IsP H v p
theorem AllP.mono {H H' : Hp} (s : Same H H') {xs : List V} {ps : List Pt} (h : AllP H xs ps) : AllP H' xs ps := ⟨h.1, fun i v p a b => (h.2 i v p a b).mono s⟩
theorem AllP.get {H : Hp} {xs : List V} {ps : List Pt} (h : AllP H xs ps) {i : Nat} {p : Pt} (e : ps[i]? = some p) : ∃ v, xs[i]? = some v ∧ IsP H v p := by
  have hlt : i < xs.length := by have := (List.getElem?_eq_some_iff.mp e).1; have := h.1; omega
  exact ⟨xs[i], by simp [hlt], h.2 i _ p (by simp [hlt]) e⟩
theorem AllP.get' {H : Hp} {xs : List V} {ps : List Pt} (h : AllP H xs ps) {i : Nat} {v : V} (e : xs[i]? = some v) : ∃ p, ps[i]? = some p ∧ IsP H v p := by
  have hlt : i < ps.length := by have := (List.getElem?_eq_some_iff.mp e).1; have := h.1; omega
  exact ⟨ps[i], by simp [hlt], h.2 i v _ e (by simp [hlt])⟩
theorem AllP.snoc {H : Hp} {xs : List V} {ps : List Pt} {v : V} {p : Pt} (h : AllP H xs ps) (hv : IsP H v p) : AllP H (xs ++ [v]) (ps ++ [p]) := by
  obtain ⟨hl, hi⟩ := h
  refine ⟨by simp [hl], fun i w d a b => ?_⟩
  by_cases hlt : i < xs.length
  · rw [List.getElem?_append_left hlt] at a
    rw [List.getElem?_append_left (by omega)] at b
    exact hi i w d a b
  · have hle : i < (xs ++ [v]).length := (List.getElem?_eq_some_iff.mp a).1
    simp at hle
    have e : i = xs.length := by omega
    subst e
    rw [List.getElem?_append_right (Nat.le_refl _)] at a
    rw [List.getElem?_append_right (by omega)] at b
    simp [hl] at a b; subst a b; exact hv
theorem eqv_pair (a b c d : Int) : PyData.eqv (.tuple [.int a, .int b]) (.tuple [.int c, .int d]) = (decide (a = c) && decide (b = d)) := by simp [PyData.eqv, PyData.eqvAll]; rfl
theorem shaped_pair (a b : Int) : SeqAt.shaped (.tuple [.int a, .int b]) = true := by
  show ((PyData.canLay0 (.tuple [.int a, .int b])) && decide ((PyData.depth (.tuple [.int a, .int b])) ≤ 64)) = true
  simp [PyData.canLay0, PyData.canLayAll0, PyData.depth, PyData.depthAll]
section
variable {P : Program} {w : World} {K : PySem.W.Frag} {mg : Str → Option Value} {base : Heap}
/-! ### _edges -/
def spEdges (K : PySem.W.Frag) : Sp := fun vs H Q _ => ∃ (a : Addr) (xs : List V), vs = [.ref a] ∧ H a = some (.tup xs) ∧ 2 ≤ xs.length ∧ xs.length ≤ 1000 ∧
  ∀ (H' : Hp) (l : Addr) (es : List Addr), Same H H' → H' l = some (.lst (es.map V.ref)) → es.length = xs.length → (∀ (j : Nat) (b : Addr), es[j]? = some b → ∃ x y, xs[j]? = some x ∧ xs[(j + 1) % xs.length]? = some y ∧ H' b = some (.tup [x, y])) → Q (.ref l) H'
theorem scEdges : FnScope ["ring"] ["ring"] (defScope sEdges) := ⟨rfl, rfl, rfl, by decide +kernel, rfl, by decide +kernel, by decide +kernel⟩
theorem turned_at {xs : List V} (h2 : 2 ≤ xs.length) {j : Nat} {y : V} (e : (xs.drop 1 ++ xs.take 1)[j]? = some y) (hj : j < xs.length) : xs[(j + 1) % xs.length]? = some y := by
  by_cases hl : j + 1 < xs.length
  · rw [Nat.mod_eq_of_lt hl]
    rw [List.getElem?_append_left (by rw [List.length_drop]; omega), List.getElem?_drop, Nat.add_comm] at e; exact e
  · have ej : j + 1 = xs.length := by omega
    rw [ej, Nat.mod_self]
    rw [List.getElem?_append_right (by rw [List.length_drop]; omega), List.length_drop, show j - (xs.length - 1) = 0 by omega, List.getElem?_take] at e
    simpa using e
theorem six_1 (n d : Nat) (h : 2 ≤ n) : HT.sIx n d (some 1) = 1 := by
  show (if (1 : Int) < 0 then ((1 : Int) + (n : Int)).toNat else min (1 : Int).toNat n) = 1
  rw [if_neg (by decide)]
  show min 1 n = 1
  omega
theorem ok_edges {f : Addr} {fd : FuncData} (B : Blt mg) (F : Fun K "_edges" "_edges" sEdges f fd) : FnOk P w K mg base CX0 1 f fd ["ring"] (spEdges K) := by
  refine F.ok scEdges (fun vs H Q E h => ?_) (fun cdv A outer s H vs Q E hr h => ?_)
  · obtain ⟨a, xs, rfl, _⟩ := h; rfl
  · obtain ⟨a, xs, rfl, hx, h2, hz, q⟩ := h
    refine ⟨_, (pss_one (ps_ret (pe_listZip rfl (by rfl) B.list (by decide +kernel) (by rfl) B.zip (pa_cons (pv 0) (pa_cons (pe_op op_catA (pe_slice sl_tupA (pv 0) (po_some pe_int) po_none) (pe_slice sl_tupA (pv 0) po_none (po_some pe_int))) pa_nil))))), ?_⟩
    have c1 : cutV xs (some 1) none = xs.drop 1 := by
      unfold cutV; rw [six_1 _ _ h2, HT.sIx_none]
      exact List.take_of_length_le (by rw [List.length_drop]; exact Nat.le_refl _)
    have c2 : cutV xs none (some 1) = xs.take 1 := by
      unfold cutV; rw [six_1 _ _ h2, HT.sIx_none]; simp
    refine ⟨.ref a, rfl, .ref a, rfl, 1, rfl, a, xs, rfl, SqT.of hx, fun hw => absurd hw.1 (by rw [six_1 _ _ h2]; decide), fun _ p1 n1 => ?_⟩
    rw [c1]
    have s1 : Same H (upd H p1 (.tup (xs.drop 1))) := same_new n1
    have g1 : (upd H p1 (.tup (xs.drop 1))) p1 = some (.tup (xs.drop 1)) := upd_same
    generalize upd H p1 (.tup (xs.drop 1)) = H1 at s1 g1 ⊢
    refine ⟨.ref a, rfl, 1, rfl, a, xs, rfl, SqT.of (s1 _ _ hx), fun hw => absurd hw.2 (by rw [six_1 _ _ h2]; omega), fun _ p2 n2 => ?_⟩
    rw [c2]
    have s2 : Same H1 (upd H1 p2 (.tup (xs.take 1))) := same_new n2
    have g2 : (upd H1 p2 (.tup (xs.take 1))) p2 = some (.tup (xs.take 1)) := upd_same
    generalize upd H1 p2 (.tup (xs.take 1)) = H2 at s2 g2 ⊢
    refine ⟨p1, p2, _, _, rfl, rfl, SqT.of (s2 _ _ g1), SqT.of g2, ?_, fun h0 => ?_, fun _ h0 => ?_, fun _ _ p3 n3 => ?_⟩
    · rw [List.length_drop, List.length_take]
      exact Nat.le_of_lt (small1000 (by omega))
    · have e := congrArg List.length h0; rw [List.length_drop, List.length_nil] at e; omega
    · have e := congrArg List.length h0; rw [List.length_take, List.length_nil] at e; omega
    · have s3 : Same H2 (upd H2 p3 (.tup (xs.drop 1 ++ xs.take 1))) := same_new n3
      have hl : xs.length = (xs.drop 1 ++ xs.take 1).length := by rw [List.length_append, List.length_drop, List.length_take]; omega
      refine ⟨a, p3, xs, _, rfl, SqT.of (s3 _ _ (s2 _ _ (s1 _ _ hx))), SqT.of upd_same, hl, fun H' l es kk _ hl' hes hall => ?_⟩
      refine q H' l es (s1.trans (s2.trans (s3.trans kk))) hl' hes fun j b hb => ?_
      obtain ⟨x, y, e1, e2, e3⟩ := hall j b hb
      exact ⟨x, y, e1, turned_at h2 e2 (by have := (List.getElem?_eq_some_iff.mp hb).1; omega), e3⟩
/-! ### _is_edge -/
def spIsEdge : Sp := fun vs H Q _ => ∃ (u v : V) (p q : Pt), vs = [u, v] ∧ IsP H u p ∧ IsP H v q ∧ ∀ H', Same H H' → Q (.bl (okE p q)) H'
theorem scIsEdge : FnScope ["start", "end", "right", "down"] ["start", "end"] (defScope sIsEdge) := ⟨rfl, rfl, rfl, by decide +kernel, rfl, by decide +kernel, by decide +kernel⟩
theorem ok_is_edge {f : Addr} {fd : FuncData} (B : Blt mg) (F : Fun K "_is_edge" "_is_edge" sIsEdge f fd) : FnOk P w K mg base CX0 1 f fd ["start", "end"] spIsEdge := by
  refine F.ok scIsEdge (fun vs H Q E h => ?_) (fun cdv A outer s H vs Q E hr h => ?_)
  · obtain ⟨u, v, p, q, rfl, _⟩ := h; rfl
  · obtain ⟨u, v, p, q, rfl, ⟨a, rfl, ha⟩, ⟨b, rfl, hb⟩, k⟩ := h
    refine ⟨_, (pss_cons (ps_set (i := 2) scIsEdge.nd rfl (.inl rfl) (pe_callB call_abs (by rfl) B.abs (by decide +kernel) (pa_cons (pe_op op_sub (pe_ix ix_tup (pv 1) pe_int (fun _ _ => rfl)) (pe_ix ix_tup (pv 0) pe_int (fun _ _ => rfl))) pa_nil)))
      (pss_cons (ps_set (i := 3) scIsEdge.nd rfl (.inl rfl) (pe_callB call_abs (by rfl) B.abs (by decide +kernel) (pa_cons (pe_op op_sub (pe_ix ix_tup (pv 1) pe_int (fun _ _ => rfl)) (pe_ix ix_tup (pv 0) pe_int (fun _ _ => rfl))) pa_nil)))
      (pss_one (ps_ret (pe_and (pe_cmpR (op_neD hr.units) (pe_tup (pa_cons (pv 2) (pa_cons (pv 3) pa_nil))) (pe_tup (pa_cons pe_int (pa_cons pe_int pa_nil))) (nomark _)) (pe_one (pe_or (pe_cmpR op_eq (pv 2) pe_int (nomark _)) (pe_or (pe_cmpR op_eq (pv 3) pe_int (nomark _)) (pe_one (pe_cmpR op_eq (pv 2) (pv 3) (nomark _))))))))))), ?_⟩
    refine ⟨.ref b, rfl, b, _, 0, .int q.1, rfl, rfl, SqT.of hb, atI_nat (j := 0) rfl, .ref a, rfl, a, _, 0, .int p.1, rfl, rfl, SqT.of ha, atI_nat (j := 0) rfl, q.1, p.1, rfl, rfl, _, rfl, ?_⟩
    refine ⟨.ref b, rfl, b, _, 1, .int q.2, rfl, rfl, SqT.of hb, atI_nat (j := 1) rfl, .ref a, rfl, a, _, 1, .int p.2, rfl, rfl, SqT.of ha, atI_nat (j := 1) rfl, q.2, p.2, rfl, rfl, _, rfl, ?_⟩
    have z2 : 2 ≤ sizeLine := by decide
    refine ⟨_, rfl, _, rfl, z2, fun o1 n1 => ⟨z2, fun o2 n2 => ⟨.tuple [.int (ab (q.1 - p.1)), .int (ab (q.2 - p.2))], .tuple [.int 0, .int 0], ?_, ?_, shaped_pair _ _, shaped_pair _ _, ?_⟩⟩⟩
    · exact .tup (SqT.of (same_new n2 _ _ upd_same)) (.cons (.int _) (.cons (.int _) .nil))
    · exact .tup (SqT.of upd_same) (.cons (.int _) (.cons (.int _) .nil))
    have s2 := (same_new n1 (o := .tup [.int (ab (q.1 - p.1)), .int (ab (q.2 - p.2))])).trans (same_new n2 (o := .tup [.int 0, .int 0]))
    have kk := k _ s2
    rw [eqv_pair]
    unfold okE at kk
    refine ⟨_, rfl, ite2 (fun h0 => ?_) (fun h0 => ?_)⟩
    · rw [h0, Bool.true_and] at kk
      refine ⟨.int (ab (q.1 - p.1)), rfl, rfl, _, rfl, ite2 (fun h1 => ?_) (fun h1 => ?_)⟩
      · have e1 : decide (ab (q.1 - p.1) = 0) = true := by simpa using h1
        rw [e1, Bool.true_or] at kk
        exact kk
      · have e1 : decide (ab (q.1 - p.1) = 0) = false := by simpa using h1
        rw [e1, Bool.false_or] at kk
        refine ⟨.int (ab (q.2 - p.2)), rfl, rfl, _, rfl, ite2 (fun h2 => ?_) (fun h2 => ?_)⟩
        · have e2 : decide (ab (q.2 - p.2) = 0) = true := by simpa using h2
          rw [e2, Bool.true_or] at kk
          exact kk
        · have e2 : decide (ab (q.2 - p.2) = 0) = false := by simpa using h2
          rw [e2, Bool.false_or] at kk
          refine ⟨.int (ab (q.1 - p.1)), rfl, .int (ab (q.2 - p.2)), rfl, rfl, ?_⟩
          have e3 : decide (V.int (ab (q.1 - p.1)) = V.int (ab (q.2 - p.2))) = decide (ab (q.1 - p.1) = ab (q.2 - p.2)) := by simp
          first | exact kk | (rw [e3]; exact kk)
    · have h0' := Bool.not_eq_true _ ▸ h0
      rw [h0', Bool.false_and] at kk
      first | exact kk | (rw [h0']; exact kk)
end
end K21

set_option maxRecDepth 100000
set_option maxHeartbeats 4000000
namespace K21
open PySem PySem.Spec PyProof.Rows L2
theorem room65 {k : Nat} {A : Around} (r : Room k A) : A.units + 65 < cLine := by have := r.un; omega
/-! ### outlines -/
def OkAt (o : List (List Pt)) (r j : Nat) : Prop := ∀ ring p q, o[r]? = some ring → ring[j]? = some p → ring[(j + 1) % ring.length]? = some q → okE p q = true
def BadAt (o : List (List Pt)) (r j : Nat) : Prop := ∃ ring p q, o[r]? = some ring ∧ ring[j]? = some p ∧ ring[(j + 1) % ring.length]? = some q ∧ okE p q = false
def AllOk (o : List (List Pt)) : Prop := ∀ r j, OkAt o r j
def FirstBad (o : List (List Pt)) (r j : Nat) : Prop := BadAt o r j ∧ (∀ j', j' < j → OkAt o r j') ∧ ∀ r', r' < r → ∀ j', OkAt o r' j'
def IsRg (H : Hp) (v : V) (ring : List Pt) : Prop := ∃ a xs, v = .ref a ∧ H a = some (.tup xs) ∧ AllP H xs ring ∧ 2 ≤ ring.length ∧ ring.length ≤ 100
theorem IsRg.mono {H H' : Hp} (s : Same H H') {v : V} {r : List Pt} (h : IsRg H v r) : IsRg H' v r := let ⟨a, xs, e, h, hp, l⟩ := h; ⟨a, xs, e, s _ _ h, hp.mono s, l⟩
def AllR (H : Hp) (xs : List V) (o : List (List Pt)) : Prop := xs.length = o.length ∧ ∀ (i : Nat) (v : V) (r : List Pt), xs[i]? = some v → o[i]? = some r → IsRg H v r
theorem AllR.mono {H H' : Hp} (s : Same H H') {xs : List V} {o : List (List Pt)} (h : AllR H xs o) : AllR H' xs o := ⟨h.1, fun i v r a b => (h.2 i v r a b).mono s⟩
theorem AllR.get' {H : Hp} {xs : List V} {o : List (List Pt)} (h : AllR H xs o) {i : Nat} {v : V} (e : xs[i]? = some v) : ∃ r, o[i]? = some r ∧ IsRg H v r := by
  have hlt : i < o.length := by have := (List.getElem?_eq_some_iff.mp e).1; have := h.1; omega
  exact ⟨o[i], by simp [hlt], h.2 i v _ e (by simp [hlt])⟩
theorem AllR.get {H : Hp} {xs : List V} {o : List (List Pt)} (h : AllR H xs o) {i : Nat} {r : List Pt} (e : o[i]? = some r) : ∃ v, xs[i]? = some v ∧ IsRg H v r := by
  have hlt : i < xs.length := by have := (List.getElem?_eq_some_iff.mp e).1; have := h.1; omega
  exact ⟨xs[i], by simp [hlt], h.2 i _ r (by simp [hlt]) e⟩
def IsO (H : Hp) (v : V) (o : List (List Pt)) : Prop := ∃ a xs, v = .ref a ∧ H a = some (.tup xs) ∧ AllR H xs o ∧ o.length ≤ 100
theorem IsO.mono {H H' : Hp} (s : Same H H') {v : V} {o : List (List Pt)} (h : IsO H v o) : IsO H' v o := let ⟨a, xs, e, h, hp, l⟩ := h; ⟨a, xs, e, s _ _ h, hp.mono s, l⟩
/-! ### the error -/
structure BadO (K : PySem.W.Frag) (mg : Str → Option Value) (C fI : Addr) (fd : FuncData) : Prop where
  gC : mg "BadOutline" = some (.ref C)
  oex : OexC K C
  fr : PySem.W.findIn K (.ref C) "ring" = some none
  fp : PySem.W.findIn K (.ref C) "point" = some none
  iC : PySem.W.findIn K (.ref C) "__init__" = some (some (.ref fI))
  tI : PySem.W.typeIn K (.ref fI) = some (.type "function")
  F : Fun K "__init__" "BadOutline.__init__" sInit fI fd
  b : Binds K fd ["self", "ring", "point"] []
section
variable {P : Program} {w : World} {K : PySem.W.Frag} {mg : Str → Option Value} {base : Heap}
theorem scInit : FnScope ["self", "ring", "point"] ["self", "ring", "point"] (defScope sInit) := ⟨rfl, rfl, rfl, by decide +kernel, rfl, by decide +kernel, by decide +kernel⟩
def spInit (K : PySem.W.Frag) (C : Addr) : Sp := fun vs H Q _ => ∃ (a : Addr) (u v : V), vs = [.ref a, u, v] ∧ H a = some (exo a C none) ∧ OexC K C ∧ PySem.W.findIn K (.ref C) "ring" = some none ∧ PySem.W.findIn K (.ref C) "point" = some none ∧
  ∀ d, H d = none → d ≠ a → Q .non (upd (upd (upd H d (exd d [("ring", u)])) a (exo a C (some d))) d (exd d [("point", v), ("ring", u)]))
theorem ok_init {f C : Addr} {fd : FuncData} (F : Fun K "__init__" "BadOutline.__init__" sInit f fd) : FnOk P w K mg base CX0 1 f fd ["self", "ring", "point"] (spInit K C) := by
  refine F.ok scInit (fun vs H Q E h => ?_) (fun cdv A outer s H vs Q E hr h => ?_)
  · obtain ⟨a, u, v, rfl, _⟩ := h; rfl
  · obtain ⟨a, u, v, rfl, ha, o, fr, fp, q⟩ := h
    refine ⟨_, pss_cons (ps_ost (pv 0) (pv 1)) (pss_one (ps_ost (pv 0) (pv 2))), ?_⟩
    refine ⟨_, rfl, _, rfl, a, C, rfl, o, fr, .inl ⟨ha, fun dx h1 h2 => ?_⟩⟩
    refine ⟨_, rfl, _, rfl, a, C, rfl, o, fp, .inr ⟨dx, _, upd_same, ?_, by show 1 ≤ 900; decide, q dx h1 h2⟩⟩
    rw [upd_ne h2, upd_same]
theorem heap_raised {H : Hp} {a d C : Addr} {fs gs : List (Str × V)} (ha : H a = none) (hne : d ≠ a) :
    upd (del (upd (upd (upd (upd H a (exo a C none)) d (exd d fs)) a (exo a C (some d))) d (exd d gs)) a) d (.xd gs) = upd H d (.xd gs) := by
  funext b
  by_cases h1 : b = d
  · subst h1; rw [upd_same, upd_same]
  · rw [upd_ne h1, upd_ne h1]
    by_cases h2 : b = a
    · subst h2; rw [del_same, ha]
    · rw [del_ne h2, upd_ne h1, upd_ne h2, upd_ne h1, upd_ne h2]
theorem raise_bo {C : Addr} {u v : V} {H : Hp} {Q : XK} (o : OexC K C) (fr : PySem.W.findIn K (.ref C) "ring" = some none) (fp : PySem.W.findIn K (.ref C) "point" = some none) (q : ∀ d, H d = none → Q (.ref C) (some d) (upd H d (.xd [("point", v), ("ring", u)]))) :
    [u, v].length ≤ 1000 ∧ ∀ a, H a = none → spInit K C (.ref a :: ([u, v] ++ [])) (upd H a (exo a C none))
      (fun z H2 => z = .non ∧ ∃ (d : Addr) (fs : List (Str × V)), H2 a = some (exo a C (some d)) ∧ H2 d = some (exd d fs) ∧ H d = none ∧ Q (.ref C) (some d) (upd (del H2 a) d (.xd fs))) (fun _ _ _ => False) := by
  refine ⟨by show 2 ≤ 1000; decide, fun a ha => ⟨a, u, v, rfl, upd_same, o, fr, fp, fun d h1 hne => ⟨rfl, d, [("point", v), ("ring", u)], ?_, upd_same, ?_, ?_⟩⟩⟩
  · rw [upd_ne (Ne.symm hne), upd_same]
  · rw [upd_ne hne] at h1; exact h1
  · rw [upd_ne hne] at h1
    rw [heap_raised ha hne]; exact q d h1
/-! ### check_outline -/
def spCheck (C : Addr) : Sp := fun vs H Q E => ∃ (v : V) (o : List (List Pt)), vs = [v] ∧ IsO H v o ∧ (AllOk o → ∀ H', Same H H' → Q .non H') ∧
  (∀ r j, FirstBad o r j → ∀ H' d, Same H H' → H' d = some (.xd [("point", .int (j : Nat)), ("ring", .int (r : Nat))]) → E (.ref C) (some d) H')
theorem scCheck : FnScope ["outline", "index", "ring", "point", "start", "end"] ["outline"] (defScope sCheck) := ⟨rfl, rfl, rfl, by decide +kernel, rfl, by decide +kernel, by decide +kernel⟩
theorem ok_check {f C fI f_edges f_is_edge : Addr} {fd fdI fd_edges fd_is_edge : FuncData} (B : Blt mg) (N : BadO K mg C fI fdI) (F : Fun K "check_outline" "check_outline" sCheck f fd)
    (F_edges : Fun K "_edges" "_edges" sEdges f_edges fd_edges) (b_edges : Binds K fd_edges ["ring"] []) (g_edges : mg "_edges" = some (.ref f_edges))
    (F_is_edge : Fun K "_is_edge" "_is_edge" sIsEdge f_is_edge fd_is_edge) (b_is_edge : Binds K fd_is_edge ["start", "end"] []) (g_is_edge : mg "_is_edge" = some (.ref f_is_edge)) :
    FnOk P w K mg base (L2.CX P w) 3 f fd ["outline"] (spCheck C) := by
  have GI : FnOk P w K mg base CX0 1 fI fdI ["self", "ring", "point"] (spInit K C) := ok_init N.F
  have G_edges : FnOk P w K mg base CX0 1 f_edges fd_edges ["ring"] (spEdges K) := ok_edges B F_edges
  have G_is_edge : FnOk P w K mg base CX0 1 f_is_edge fd_is_edge ["start", "end"] spIsEdge := ok_is_edge B F_is_edge
  refine F.okX scCheck (fun vs H Q E h => ?_) (fun cdv A outer s H vs Q E hr2 h => ?_)
  · obtain ⟨v, o, rfl, _⟩ := h; rfl
  · obtain ⟨v, o, rfl, ⟨a, xs, rfl, ha, hall, hz⟩, q, e⟩ := h
    have hr : Room 1 _ := hr2.mono (by decide)
    refine ⟨_, (pss_one (ps_for (passes_of rfl) rfl (pi_enumT (by rfl) B.enumerate (pa_cons (pv 0) pa_nil)) (pg_tup rfl (pgs_cons (pg_name (i := 1) scCheck.nd rfl (.inl rfl)) (pgs_cons (pg_name (i := 2) scCheck.nd rfl (.inl rfl)) pgs_nil)))
      (pss_one (ps_for (passes_of rfl) rfl (pi_enum (by rfl) B.enumerate (pa_cons (pe_call G_edges hr (by rfl) g_edges F_edges.kp b_edges .nil pass0 (pa_cons (pv 2) pa_nil)) pa_nil)) (pg_tup rfl (pgs_cons (pg_name (i := 3) scCheck.nd rfl (.inl rfl)) (pgs_cons (pg_tup rfl (pgs_cons (pg_name (i := 4) scCheck.nd rfl (.inl rfl)) (pgs_cons (pg_name (i := 5) scCheck.nd rfl (.inl rfl)) pgs_nil))) pgs_nil)))
       (pss_one (ps_if (pt_not (pt_val (pe_call G_is_edge hr (by rfl) g_is_edge F_is_edge.kp b_is_edge .nil pass0 (pa_cons (pv 4) (pa_cons (pv 5) pa_nil)))))
        (pss_one (ps_raise rfl (takes_of rfl rfl rfl rfl) (pmk_oex N.oex N.iC N.tI GI hr2 N.b .nil pass0 (by rfl) N.gC (pa_cons (pv 1) (pa_cons (pv 3) pa_nil)))))
        pss_nil)))))), ?_⟩
    refine ⟨.ref a, rfl, a, xs, rfl, SqT.of ha, for_enumT (fun i σ H' => ∃ y1 y2 y3 y4 y5, σ = [some (.ref a), y1, y2, y3, y4, y5] ∧ Same H H' ∧ ∀ r, r < i → ∀ j, OkAt o r j)
      ⟨none, none, none, none, none, rfl, Same.refl _, fun r h => absurd h (Nat.not_lt_zero r)⟩ (fun i σ H' ⟨_, _, _, _, _, _, sm, _⟩ => SqT.of (sm _ _ ha)) ?_ ?_⟩
    · rintro i x T σ H' hi ⟨y1, y2, y3, y4, y5, rfl, sm, hok⟩ hT
      obtain ⟨ring, er, b, ps, rfl, hb, hps, hl2, hl3⟩ := hall.get' hi
      have s1 : Same H (upd H' T (.tup [.int (i : Nat), .ref b])) := sm.trans (same_new hT)
      refine ⟨T, _, rfl, SqT.of upd_same, rfl, _, _, rfl, _, _, rfl, rfl, ?_⟩
      generalize upd H' T (.tup [.int (i : Nat), .ref b]) = H1 at s1 ⊢
      have hpl := hps.1
      refine ⟨.ref b, rfl, b, ps, rfl, s1 _ _ hb, by omega, by omega, fun H2 l es s2 hl hes hpair => ?_⟩
      refine ⟨l, es.map V.ref, rfl, SqL.of hl, for_enumL (fun j σ H' => ∃ y3 y4 y5, σ = [some (.ref a), some (.int (i : Nat)), some (.ref b), y3, y4, y5] ∧ Same H2 H' ∧ ∀ j', j' < j → OkAt o i j')
        ⟨y3, y4, y5, rfl, Same.refl _, fun j h => absurd h (Nat.not_lt_zero j)⟩ (fun j σ H' ⟨_, _, _, _, sm, _⟩ => SqL.of (sm _ _ hl)) ?_ ?_⟩
      · rintro j xb T2 σ H3 hj ⟨y3, y4, y5, rfl, s3, hok2⟩ hT2
        rw [List.getElem?_map] at hj
        cases ej : es[j]? with
        | none => rw [ej] at hj; cases hj
        | some eb =>
        rw [ej] at hj; cases hj
        obtain ⟨x, y, e1, e2, e3⟩ := hpair j eb ej
        obtain ⟨p, ep, hp⟩ := hps.get' e1
        obtain ⟨p2, ep2, hp2⟩ := hps.get' e2
        rw [hpl] at ep2
        have s4 : Same H2 (upd H3 T2 (.tup [.int (j : Nat), .ref eb])) := s3.trans (same_new hT2)
        refine ⟨T2, _, rfl, SqT.of upd_same, rfl, _, _, rfl, _, _, rfl, ?_⟩
        generalize upd H3 T2 (.tup [.int (j : Nat), .ref eb]) = H4 at s4 ⊢
        have s5 : Same H H4 := s1.trans (s2.trans s4)
        refine ⟨eb, [x, y], rfl, SqT.of (s4 _ _ e3), rfl, _, _, rfl, _, _, rfl, rfl, rfl, ?_⟩
        refine ⟨x, rfl, y, rfl, x, y, p, p2, rfl, hp.mono s5, hp2.mono s5, fun H5 s6 => ⟨okE p p2, rfl, ite2 (fun h => ?_) (fun h => ?_)⟩⟩
        · have hf : okE p p2 = false := by simpa using h
          refine ⟨.int (i : Nat), rfl, .int (j : Nat), rfl, raise_bo N.oex N.fr N.fp fun d hd => ?_⟩
          exact e i j ⟨⟨ring, p, p2, er, ep, ep2, hf⟩, hok2, hok⟩ _ d ((s5.trans s6).trans (same_new hd)) upd_same
        · have hf : okE p p2 = true := by simpa using h
          refine ⟨_, _, _, rfl, s4.trans s6, fun j' hj' => ?_⟩
          by_cases hlt : j' < j
          · exact hok2 j' hlt
          · obtain rfl : j' = j := by omega
            intro rg u v h1 h2 h3
            rw [er] at h1; cases h1
            rw [ep] at h2; cases h2
            rw [ep2] at h3; cases h3
            exact hf
      · rintro σ H3 ⟨y3, y4, y5, rfl, s3, hok2⟩
        refine ⟨_, _, _, _, _, rfl, s1.trans (s2.trans s3), fun r hr' j => ?_⟩
        by_cases hlt : r < i
        · exact hok r hlt j
        · obtain rfl : r = i := by omega
          by_cases hj : j < (es.map V.ref).length
          · exact hok2 j hj
          · intro rg u v h1 h2 h3
            rw [er] at h1; cases h1
            have := (List.getElem?_eq_some_iff.mp h2).1
            rw [List.length_map] at hj; omega
    · rintro σ H' ⟨y1, y2, y3, y4, y5, rfl, sm, hok⟩
      refine q (fun r j => ?_) H' sm
      by_cases hlt : r < xs.length
      · exact hok r hlt j
      · intro rg u v h1 h2 h3
        have := (List.getElem?_eq_some_iff.mp h1).1
        have := hall.1; omega
end
end K21

set_option maxRecDepth 100000
set_option maxHeartbeats 4000000
namespace K21
open PySem PySem.Spec PyProof.Rows L2
section
variable {P : Program} {w : World} {K : PySem.W.Frag} {mg : Str → Option Value} {base : Heap}
/-! ### _law_cell -/
def spCell (K : PySem.W.Frag) : Sp := fun vs H Q _ => ∃ (a : Addr) (ns : List Int) (k : Int), vs = [.ref a, .int k] ∧ SqL K H a (ns.map V.int) ∧ ns.length ≤ 63 ∧ 0 ≤ k ∧ ∀ c, Q (.int c) H
theorem scCell : FnScope ["_law_script", "_law_k"] ["_law_script", "_law_k"] (defScope sCell) := ⟨rfl, rfl, rfl, by decide +kernel, rfl, by decide +kernel, by decide +kernel⟩
theorem ok_cell {f : Addr} {fd : FuncData} (B : Blt mg) (F : Fun K "_law_cell" "_law_cell" sCell f fd) : FnOk P w K mg base CX0 1 f fd ["_law_script", "_law_k"] (spCell K) := by
  refine F.ok scCell (fun vs H Q E h => ?_) (fun cdv A outer s H vs Q E hr h => ?_)
  · obtain ⟨a, ns, k, rfl, _⟩ := h; rfl
  · obtain ⟨a, ns, k, rfl, hS, hlen, h0, q⟩ := h
    refine ⟨_, pss_cons (ps_if (pt_cmpR op_lt (pv 1) (pe_callB call_len (by rfl) B.len PySem.boot_len (pa_cons (pv 0) pa_nil)) (nomark _)) (pss_one (ps_ret (pe_callTy call_int1 (by rfl) B.int (by decide +kernel) (pa_cons (pe_ix ix_list (pv 0) (pv 1) (fun _ _ => rfl)) pa_nil)))) pss_nil)
      (pss_one (ps_ret pe_int)), ?_⟩
    refine ⟨.int k, rfl, .ref a, rfl, .ref a, (ns.map V.int).length, rfl, .inl ⟨_, hS, rfl⟩, k, _, rfl, rfl, _, rfl, ite2 (fun hk => ?_) (fun _ => ?_)⟩
    · have hk' : k < ((ns.map V.int).length : Int) := of_decide_eq_true hk
      rw [List.length_map] at hk'
      have hlt : k.toNat < ns.length := by omega
      exact ⟨.ref a, rfl, .int k, rfl, a, _, k, .int (ns[k.toNat]'hlt), rfl, rfl, hS, at_of (j := k.toNat) (by omega) (by rw [List.getElem?_map]; simp [hlt]), .inl ⟨_, rfl, q _⟩⟩
    · exact q _
/-! ### _law_row -/
theorem map_snoc' (rs : List Int) (r : Int) : rs.map V.int ++ [V.int r] = (rs ++ [r]).map V.int := by rw [List.map_append]; rfl
def RowOf (ls rs : List Int) : Prop := rs.length = ls.length ∧ ∀ (i : Nat) (l : Int), ls[i]? = some l → ∃ r, rs[i]? = some r ∧ 0 ≤ r ∧ r < l
def spRow (K : PySem.W.Frag) : Sp := fun vs H Q _ => ∃ (c : Int) (a : Addr) (ls : List Int), vs = [.int c, .ref a] ∧ SqL K H a (ls.map V.int) ∧ ls.length ≤ 1000 ∧ (∀ l ∈ ls, 0 < l ∧ l < 1000000) ∧
  ∀ H' p rs, Same H H' → H p = none → H' p = some (.lst (rs.map V.int)) → RowOf ls rs → Q (.ref p) H'
theorem scRow : FnScope ["_law_cell_here", "_law_limits", "_law_row_here", "_law_rest", "_law_limit", "_law_k", "_law_mixed"] ["_law_cell_here", "_law_limits"] (defScope sRow) := ⟨rfl, rfl, rfl, by decide +kernel, rfl, by decide +kernel, by decide +kernel⟩
theorem ok_row {f : Addr} {fd : FuncData} (B : Blt mg) (F : Fun K "_law_row" "_law_row" sRow f fd) : FnOk P w K mg base CX0 1 f fd ["_law_cell_here", "_law_limits"] (spRow K) := by
  refine F.ok scRow (fun vs H Q E h => ?_) (fun cdv A outer s H vs Q E hr h => ?_)
  · obtain ⟨c, a, ls, rfl, _⟩ := h; rfl
  · obtain ⟨c, a, ls, rfl, hS, hlen, hpos, q⟩ := h
    refine ⟨_, (pss_cons (ps_set (i := 2) scRow.nd rfl (.inl rfl) (pe_lst pa_nil))
      (pss_cons (ps_if (pt_cmpR op_ge (pv 0) pe_int (nomark _))
      (pss_cons (ps_set (i := 3) scRow.nd rfl (.inl rfl) (pe_op op_sub (pv 0) pe_int))
       (pss_cons (ps_for (PassesOwn.never) rfl (pi_list (pv 1)) (pg_name (i := 4) scRow.nd rfl (.inl rfl))
       (pss_cons (ps_expr (pe_bm PySem.F.plainAttrs_list PySem.F.slot_list_append PySem.F.type_list_append mt_append (pv 2) (pa_cons (pe_op op_modN (pe_callTy call_int1 (by rfl) B.int (by decide +kernel) (pa_cons (pv 3) pa_nil)) (pv 4)) pa_nil)))
        (pss_one (ps_set (i := 3) scRow.nd rfl (.inl rfl) (pe_op op_fdivN (pv 3) (pv 4))))))
       (pss_one (ps_ret (pv 2)))))
      pss_nil)
      (pss_cons (ps_for (PassesOwn.never) rfl (pi_range1 (by rfl) B.range (pa_cons (pe_callB call_len (by rfl) B.len PySem.boot_len (pa_cons (pv 1) pa_nil)) pa_nil)) (pg_name (i := 5) scRow.nd rfl (.inl rfl))
      (pss_cons (ps_set (i := 6) scRow.nd rfl (.inl rfl) (pe_op op_modN (pe_callTy call_int1 (by rfl) B.int (by decide +kernel) (pa_cons (pe_op op_add (pe_op op_add (pe_op op_mul (pv 0) pe_int) (pe_op op_mul (pv 5) pe_int)) pe_int) pa_nil)) pe_int))
       (pss_cons (ps_set (i := 6) scRow.nd rfl (.inl rfl) (pe_op op_modN (pe_callTy call_int1 (by rfl) B.int (by decide +kernel) (pa_cons (pe_op op_add (pe_op op_add (pe_op op_mul (pv 6) (pe_op op_add pe_int (pe_op op_mul pe_int (pv 5)))) (pe_op op_mul (pe_op op_mul (pv 5) (pv 5)) pe_int)) pe_int) pa_nil)) pe_int))
       (pss_one (ps_expr (pe_bm PySem.F.plainAttrs_list PySem.F.slot_list_append PySem.F.type_list_append mt_append (pv 2) (pa_cons (pe_op op_modN (pe_callTy call_int1 (by rfl) B.int (by decide +kernel) (pa_cons (pe_op op_fdivN (pv 6) pe_int) pa_nil)) (pe_ix ix_list (pv 1) (pv 5) (fun _ _ => rfl))) pa_nil)))))))
      (pss_one (ps_ret (pv 2)))))), ?_⟩
    refine ⟨Nat.zero_le _, fun o no => ?_⟩
    have s1 : Same H (upd H o (.lst [])) := same_new no
    have eo : (upd H o (.lst [])) o = some (.lst (([] : List Int).map V.int)) := upd_same
    generalize upd H o (.lst []) = H1 at s1 eo ⊢
    have more : ∀ (n : Nat) (rs : List Int) (l : Int), ls[n]? = some l → rs.length = n → (∀ (i : Nat) (l : Int), i < n → ls[i]? = some l → ∃ r, rs[i]? = some r ∧ 0 ≤ r ∧ r < l) → ∀ x : Int, ∀ (i : Nat) (m : Int), i < n + 1 → ls[i]? = some m → ∃ r, (rs ++ [x.fmod l])[i]? = some r ∧ 0 ≤ r ∧ r < m := by
      intro n rs l hl hrs hrow x i m hi hm
      have hp := hpos l (List.mem_of_getElem? hl)
      by_cases hin : i < n
      · obtain ⟨r, h1, h2, h3⟩ := hrow i m hin hm
        exact ⟨r, by rw [List.getElem?_append_left (by omega)]; exact h1, h2, h3⟩
      · obtain rfl : i = n := by omega
        rw [hl] at hm; cases hm
        exact ⟨_, by rw [List.getElem?_append_right (by omega), hrs, Nat.sub_self]; rfl, Int.fmod_nonneg_of_pos _ hp.1, Int.fmod_lt_of_pos _ hp.1⟩
    refine ⟨.int c, rfl, c, 1000000000000000000, rfl, rfl, _, rfl, ite2 (fun _ => ?_) (fun _ => ?_)⟩
    · refine ⟨.int c, rfl, c, 1000000000000000000, rfl, rfl, .ref a, rfl, a, rfl, ⟨_, s1.seq hS⟩, for_list (K := K) (a := a) (xs := ls.map V.int) (fun n σ H' => ∃ (rest : Int) (y4 y5 y6 : Option V) (rs : List Int), σ = [some (.int c), some (.ref a), some (.ref o), some (.int rest), y4, y5, y6] ∧ Same H H' ∧ H' o = some (.lst (rs.map V.int)) ∧ rs.length = n ∧
        ∀ (i : Nat) (l : Int), i < n → ls[i]? = some l → ∃ r, rs[i]? = some r ∧ 0 ≤ r ∧ r < l) ⟨_, none, none, none, [], rfl, s1, eo, rfl, fun i l h => absurd h (Nat.not_lt_zero i)⟩ (fun n σ H' _ ⟨_, _, _, _, _, _, sm, _⟩ => sm.seq hS) ?_ ?_⟩
      · rintro n x σ H' hn ⟨rest, y4, y5, y6, rs, rfl, sm, ho, hl, hrow⟩
        rw [List.getElem?_map] at hn
        cases en : ls[n]? with
        | none => rw [en] at hn; cases hn
        | some l =>
        rw [en] at hn; cases hn
        have hp := hpos l (List.mem_of_getElem? en)
        have hlt := (List.getElem?_eq_some_iff.mp en).1
        have hsz : (rs.map V.int).length < sizeLine := by rw [List.length_map]; exact small1000 (by omega)
        refine ⟨.ref o, rfl, .inl ⟨rfl, _, SqL.of ho⟩, .int rest, rfl, .inl ⟨rest, rfl, .int l, rfl, rest, l, rfl, rfl, by omega, o, _, _, rfl, rfl, ho, hsz, ?_⟩⟩
        refine ⟨.int rest, rfl, .int l, rfl, rest, l, rfl, rfl, ⟨by omega, by omega⟩, ?_⟩
        exact ⟨_, _, _, _, _, rfl, same_at sm no, by rw [upd_same, map_snoc'], by rw [List.length_append, hl]; rfl, more n rs l en hl hrow rest⟩
      · rintro σ H' ⟨rest, y4, y5, y6, rs, rfl, sm, ho, hl, hrow⟩
        rw [List.length_map] at hl hrow
        exact ⟨.ref o, rfl, q H' o rs sm no ho ⟨hl, fun i l hli => hrow i l (List.getElem?_eq_some_iff.mp hli).1 hli⟩⟩
    · refine ⟨.ref a, rfl, .ref a, (ls.map V.int).length, rfl, .inl ⟨_, s1.seq hS, rfl⟩, ((ls.map V.int).length : Int), rfl, by omega, by rw [List.length_map]; omega, ?_⟩
      rw [Int.toNat_natCast, List.length_map]
      refine for_range (lo := 0) (n := ls.length) (fun n σ H' => ∃ (y3 y4 y5 y6 : Option V) (rs : List Int), σ = [some (.int c), some (.ref a), some (.ref o), y3, y4, y5, y6] ∧ Same H H' ∧ H' o = some (.lst (rs.map V.int)) ∧ rs.length = n ∧
        ∀ (i : Nat) (l : Int), i < n → ls[i]? = some l → ∃ r, rs[i]? = some r ∧ 0 ≤ r ∧ r < l) ⟨none, none, none, none, [], rfl, s1, eo, rfl, fun i l h => absurd h (Nat.not_lt_zero i)⟩ ?_ ?_
      · rintro n σ H' hn ⟨y3, y4, y5, y6, rs, rfl, sm, ho, hl, hrow⟩
        have e0 : (0 : Int) + (n : Int) = (n : Int) := by omega
        rw [e0]
        have hSn : SqL K H' a (ls.map V.int) := sm.seq hS
        have en : ls[n]? = some (ls[n]'hn) := by simp [hn]
        have hat : (ls.map V.int)[n]? = some (.int (ls[n]'hn)) := by rw [List.getElem?_map, en]; rfl
        have hp := hpos (ls[n]'hn) (List.getElem_mem hn)
        have hsz : (rs.map V.int).length < sizeLine := by rw [List.length_map]; exact small1000 (by omega)
        refine ⟨.int c, rfl, c, 48271, rfl, rfl, .inr ⟨by decide, by decide⟩, .int (n : Int), rfl, (n : Int), 69621, rfl, rfl, .inr ⟨by decide, by decide⟩, _, _, rfl, rfl, _, 11, rfl, rfl, .inl ⟨_, rfl, _, 2147483647, rfl, rfl, (show (2147483647 : Int) ≠ 0 by decide), ?_⟩⟩
        have hm0 : 0 ≤ (c * 48271 + (n : Int) * 69621 + 11).fmod 2147483647 := Int.fmod_nonneg_of_pos _ (by decide)
        have hm1 : (c * 48271 + (n : Int) * 69621 + 11).fmod 2147483647 < 2147483647 := Int.fmod_lt_of_pos _ (by decide)
        refine ⟨_, rfl, .int (n : Int), rfl, 2, (n : Int), rfl, rfl, .inl ⟨by decide, by decide⟩, 16807, _, rfl, rfl, (c * 48271 + (n : Int) * 69621 + 11).fmod 2147483647, _, rfl, rfl, .inl ⟨Int.lt_of_lt_of_le (by decide) hm0, Int.lt_trans hm1 (by decide)⟩, .int (n : Int), rfl, .int (n : Int), rfl, (n : Int), (n : Int), rfl, rfl, .inl ⟨by omega, by omega⟩, _, 40692, rfl, rfl, .inr ⟨by decide, by decide⟩, _, _, rfl, rfl, _, 7, rfl, rfl, .inl ⟨_, rfl, _, 2147483399, rfl, rfl, (show (2147483399 : Int) ≠ 0 by decide), ?_⟩⟩
        refine ⟨.ref o, rfl, .inl ⟨rfl, _, SqL.of ho⟩, _, rfl, _, 31, rfl, rfl, ⟨by decide, by decide⟩, .inl ⟨_, rfl, .ref a, rfl, .int (n : Int), rfl, a, _, (n : Int), .int (ls[n]'hn), rfl, rfl, hSn, atI_nat hat, _, ls[n]'hn, rfl, rfl, by omega, o, _, _, rfl, rfl, ho, hsz, ?_⟩⟩
        exact ⟨_, _, _, _, _, rfl, same_at sm no, by rw [upd_same, map_snoc'], by rw [List.length_append, hl]; rfl, more n rs _ en hl hrow _⟩
      · rintro σ H' ⟨y3, y4, y5, y6, rs, rfl, sm, ho, hl, hrow⟩
        exact ⟨.ref o, rfl, q H' o rs sm no ho ⟨hl, fun i l hli => hrow i l (List.getElem?_eq_some_iff.mp hli).1 hli⟩⟩
/-! ### _law_same -/
theorem ty_tup {H : Hp} {a : Addr} {xs : List V} (h : H a = some (.tup xs)) : TyX K H (.ref a) (.type "tuple") := .base (.tup h)
theorem ty_txt {H : Hp} {z : Str} : TyX K H (.str z) (.type "str") := .base (.str z)
/-- of depth below n, without None -/
def DepLt : Nat → PyData → Prop
  | 0, _ => False
  | n + 1, .tuple ds => ds.length ≤ 2000 ∧ ∀ d ∈ ds, DepLt n d
  | _ + 1, .none => False
  | _ + 1, _ => True
def spSame (n : Nat) : Sp := fun vs H Q _ => ∃ (x y : V) (d : PyData), vs = [x, y] ∧ Is H x d ∧ Is H y d ∧ DepLt n d ∧ Q (.bl true) H
theorem scSame : FnScope ["_law_one", "_law_two", "_law_k"] ["_law_one", "_law_two"] (defScope sSame) := ⟨rfl, rfl, rfl, by decide +kernel, rfl, by decide +kernel, by decide +kernel⟩
theorem ok_same {f_same : Addr} {fd : FuncData} (B : Blt mg) (F_same : Fun K "_law_same" "_law_same" sSame f_same fd) (b_same : Binds K fd ["_law_one", "_law_two"] []) (g_same : mg "_law_same" = some (.ref f_same)) : ∀ n, FnOk P w K mg base CX0 (n + 1) f_same fd ["_law_one", "_law_two"] (spSame n)
  | 0 => F_same.ok scSame (fun vs H Q E h => by obtain ⟨x, y, d, _, _, _, h, _⟩ := h; exact h.elim) (fun cdv A outer s H vs Q E hr h => by obtain ⟨x, y, d, _, _, _, h, _⟩ := h; exact h.elim)
  | n + 1 => by
    have G_same := ok_same B F_same b_same g_same n
    refine F_same.ok scSame (fun vs H Q E h => ?_) (fun cdv A outer s H vs Q E hr h => ?_)
    · obtain ⟨x, y, d, rfl, _⟩ := h; rfl
    · obtain ⟨x, y, d, rfl, hx, hy, hd, q⟩ := h
      refine ⟨_, (pss_cons (ps_if (pt_val (pe_callB call_isi (by rfl) B.isi (by decide +kernel) (pa_cons (pv 1) (pa_cons (pe_bltn (v := .ty "int") (by rfl) B.int (by decide +kernel) rfl) pa_nil))))
      (pss_one (ps_ret (pe_and (pe_callB call_isi (by rfl) B.isi (by decide +kernel) (pa_cons (pv 0) (pa_cons (pe_bltn (v := .ty "int") (by rfl) B.int (by decide +kernel) rfl) pa_nil))) (pe_and (pe_not (pe_callB call_isi (by rfl) B.isi (by decide +kernel) (pa_cons (pv 0) (pa_cons (pe_bltn (v := .ty "bool") (by rfl) B.bool (by decide +kernel) rfl) pa_nil)))) (pe_one (pe_cmpR op_eq (pv 0) (pv 1) (nomark _)))))))
      pss_nil)
      (pss_cons (ps_if (pt_val (pe_callB call_isi (by rfl) B.isi (by decide +kernel) (pa_cons (pv 1) (pa_cons (pe_bltn (v := .ty "str") (by rfl) B.str (by decide +kernel) rfl) pa_nil))))
      (pss_one (ps_ret (pe_and (pe_callB call_isi (by rfl) B.isi (by decide +kernel) (pa_cons (pv 0) (pa_cons (pe_bltn (v := .ty "str") (by rfl) B.str (by decide +kernel) rfl) pa_nil))) (pe_one (pe_cmpR op_eq (pv 0) (pv 1) (nomark _))))))
      pss_nil)
      (pss_cons (ps_if (PW.pt (pw_or (pt_not (pt_val (pe_callB call_isi (by rfl) B.isi (by decide +kernel) (pa_cons (pv 0) (pa_cons (pe_bltn (v := .ty "tuple") (by rfl) B.tuple (by decide +kernel) rfl) pa_nil))))) (pw_or1 (pt_cmpR op_ne (pe_callB call_len (by rfl) B.len PySem.boot_len (pa_cons (pv 0) pa_nil)) (pe_callB call_len (by rfl) B.len PySem.boot_len (pa_cons (pv 1) pa_nil)) (nomark _)))))
      (pss_one (ps_ret pe_bl))
      pss_nil)
      (pss_cons (ps_for (PassesOwn.never) rfl (pi_range1 (by rfl) B.range (pa_cons (pe_callB call_len (by rfl) B.len PySem.boot_len (pa_cons (pv 1) pa_nil)) pa_nil)) (pg_name (i := 2) scSame.nd rfl (.inl rfl))
      (pss_one (ps_if (pt_not (pt_val (pe_call G_same hr (by rfl) g_same F_same.kp b_same .nil pass0 (pa_cons (pe_ix ix_tup (pv 0) (pv 2) (fun _ _ => rfl)) (pa_cons (pe_ix ix_tup (pv 1) (pv 2) (fun _ _ => rfl)) pa_nil)))))
       (pss_one (ps_ret pe_bl))
       pss_nil)))
      (pss_one (ps_ret pe_bl)))))), ?_⟩
      cases hy with
      | non => exact hd.elim
      | str z =>
        cases hx
        refine ⟨.str z, rfl, .str z, .ty "int", .type "str", .type "int", false, rfl, .ty "int", ty_txt, kit_ty (by decide +kernel), _, rfl, iteF ?_⟩
        refine ⟨.str z, rfl, .str z, .ty "str", .type "str", .type "str", true, rfl, .ty "str", ty_txt, kit_ty (by decide +kernel), _, rfl, iteT ?_⟩
        refine ⟨.str z, rfl, .str z, .ty "str", .type "str", .type "str", true, rfl, .ty "str", ty_txt, kit_ty (by decide +kernel), _, rfl, iteT ?_⟩
        refine ⟨.str z, rfl, .str z, rfl, rfl, ?_⟩
        rw [decide_eq_true rfl]; exact q
      | int i =>
        cases hx
        refine ⟨.int i, rfl, .int i, .ty "int", .type "int", .type "int", true, rfl, .ty "int", .base (.int i), kit_ty (by decide +kernel), _, rfl, iteT ?_⟩
        refine ⟨.int i, rfl, .int i, .ty "int", .type "int", .type "int", true, rfl, .ty "int", .base (.int i), kit_ty (by decide +kernel), _, rfl, iteT ?_⟩
        refine ⟨.int i, rfl, .int i, .ty "bool", .type "int", .type "bool", false, rfl, .ty "bool", .base (.int i), kit_ty (by decide +kernel), _, rfl, _, rfl, iteT ?_⟩
        refine ⟨.int i, rfl, .int i, rfl, rfl, ?_⟩
        rw [decide_eq_true rfl]; exact q
      | @tup a2 ys ds h2 hl2 hi2 =>
        cases hx with
        | @tup a1 xs _ h1 hl1 hi1 =>
        have hds : ds.length ≤ 2000 := hd.1
        refine ⟨.ref a2, rfl, .ref a2, .ty "int", .type "tuple", .type "int", false, rfl, .ty "int", ty_tup h2, kit_ty (by decide +kernel), _, rfl, iteF ?_⟩
        refine ⟨.ref a2, rfl, .ref a2, .ty "str", .type "tuple", .type "str", false, rfl, .ty "str", ty_tup h2, kit_ty (by decide +kernel), _, rfl, iteF ?_⟩
        refine ⟨.ref a1, rfl, .ref a1, .ty "tuple", .type "tuple", .type "tuple", true, rfl, .ty "tuple", ty_tup h1, kit_ty (by decide +kernel), _, rfl, iteF ?_⟩
        refine ⟨.ref a1, rfl, .ref a1, xs.length, rfl, .inr ⟨_, SqT.of h1, rfl⟩, .ref a2, rfl, .ref a2, ys.length, rfl, .inr ⟨_, SqT.of h2, rfl⟩, rfl, _, rfl, ?_⟩
        rw [decide_eq_true (show V.int (xs.length : Int) = V.int (ys.length : Int) by rw [hl1, hl2])]
        refine iteF ⟨.ref a2, rfl, .ref a2, ys.length, rfl, .inr ⟨_, SqT.of h2, rfl⟩, (ys.length : Int), rfl, by omega, by omega, ?_⟩
        rw [Int.toNat_natCast]
        refine for_range (lo := 0) (n := ys.length) (fun n σ H' => ∃ y, σ = [some (.ref a1), some (.ref a2), y] ∧ H' = H) ⟨none, rfl, rfl⟩ ?_ ?_
        · rintro k σ H' hk ⟨y, rfl, rfl⟩
          have e0 : (0 : Int) + (k : Int) = (k : Int) := by omega
          rw [e0]
          have g1 : xs[k]? = some (xs[k]'(by omega)) := by simp
          have g2 : ys[k]? = some (ys[k]'hk) := by simp
          have g3 : ds[k]? = some (ds[k]'(by omega)) := by simp
          refine ⟨.ref a1, rfl, .int (k : Int), rfl, a1, xs, (k : Int), _, rfl, rfl, SqT.of h1, atI_nat g1, .ref a2, rfl, .int (k : Int), rfl, a2, ys, (k : Int), _, rfl, rfl, SqT.of h2, atI_nat g2, ?_⟩
          have hm : ds[k]'(by omega) ∈ ds := List.getElem_mem _
          exact ⟨_, _, _, rfl, hi1 k _ _ g1 g3, hi2 k _ _ g2 g3, hd.2 _ hm, true, rfl, iteF ⟨_, rfl, rfl⟩⟩
        · rintro σ H' ⟨y, rfl, rfl⟩
          exact q
end
end K21

set_option maxRecDepth 100000
set_option maxHeartbeats 4000000
namespace K21
open PySem PySem.Spec PyProof.Rows L2
theorem IsP.monoT {H H' : Hp} (s : SameT H H') {v : V} {p : Pt} (h : IsP H v p) : IsP H' v p := let ⟨a, e, h⟩ := h; ⟨a, e, s _ _ h⟩
theorem AllP.monoT {H H' : Hp} (s : SameT H H') {xs : List V} {ps : List Pt} (h : AllP H xs ps) : AllP H' xs ps := ⟨h.1, fun i v p a b => (h.2 i v p a b).monoT s⟩
theorem AllP.nil {H : Hp} : AllP H [] [] := ⟨rfl, fun i v p a _ => by simp at a⟩
theorem AllP.cons {H : Hp} {v : V} {p : Pt} {xs : List V} {ps : List Pt} (hv : IsP H v p) (h : AllP H xs ps) : AllP H (v :: xs) (p :: ps) := by
  refine ⟨by simp [h.1], fun i w q a b => ?_⟩
  cases i with
  | zero => simp at a b; subst a b; exact hv
  | succ i => exact h.2 i w q (by simpa using a) (by simpa using b)
theorem tups_of {H H' : Hp} (s : Same H H') : SameT H H' := fun a xs e => s _ _ e
def dirs : List Pt := [(1, 0), (1, 1), (0, 1), (-1, 1), (-1, 0), (-1, -1), (0, -1), (1, -1)]
def stepP (p : Pt) (L : Int) (d : Pt) : Pt := (p.1 + L * d.1, p.2 + L * d.2)
def inG (p : Pt) : Bool := (decide (0 ≤ p.1) && decide (p.1 ≤ 12)) && (decide (0 ≤ p.2) && decide (p.2 ≤ 12))
def rowR (p : Pt) (L : Int) (ds : List Pt) : List Pt := (ds.map (stepP p L)).filter inG
def reachN (p : Pt) (n : Nat) : List Pt := (List.range n).flatMap fun (i : Nat) => rowR p ((i : Int) + 1) dirs
def reach (p : Pt) : List Pt := reachN p 12
theorem reachN_succ (p : Pt) (n : Nat) : reachN p (n + 1) = reachN p n ++ rowR p ((n : Int) + 1) dirs := by simp [reachN, List.range_succ]
theorem rowR_len (p : Pt) (L : Int) (ds : List Pt) : (rowR p L ds).length ≤ ds.length := by
  unfold rowR
  exact Nat.le_trans (List.length_filter_le _ _) (by simp)
theorem reachN_len (p : Pt) : ∀ n, (reachN p n).length ≤ 8 * n
  | 0 => by simp [reachN]
  | n + 1 => by
    have h1 := reachN_len p n
    have h2 := rowR_len p ((n : Int) + 1) dirs
    have h3 : dirs.length = 8 := rfl
    rw [reachN_succ, List.length_append]; omega
theorem rowR_next {p : Pt} {L : Int} {j : Nat} {d : Pt} (e : dirs[j]? = some d) : rowR p L (dirs.take (j + 1)) = rowR p L (dirs.take j) ++ (if inG (stepP p L d) = true then [stepP p L d] else []) := by
  have et : dirs.take (j + 1) = dirs.take j ++ [d] := by rw [List.take_add_one, e]; rfl
  unfold rowR
  rw [et, List.map_append, List.filter_append]
  congr 1
  cases h : inG (stepP p L d) <;> simp [h]
section
variable {P : Program} {w : World} {K : PySem.W.Frag} {mg : Str → Option Value} {base : Heap}
def spReach : Sp := fun vs H Q _ => ∃ (v : V) (p : Pt), vs = [v] ∧ IsP H v p ∧ ∀ H' o xs, Same H H' → H o = none → H' o = some (.lst xs) → AllP H' xs (reach p) → Q (.ref o) H'
def PvR (a o l : Addr) (p : Pt) (L : Int) (bs : List Pt) (H G : Hp) (ls : List V) (j : Nat) : L2.St → Hp → Prop := fun σ H' => ∃ y3 y4 y5 y6 vs, σ = [some (.ref a), some (.ref o), some (.int L), y3, y4, y5, y6] ∧ Same H H' ∧ SameT G H' ∧ H' l = some (.lst ls) ∧ H' o = some (.lst vs) ∧ AllP H' vs (bs ++ rowR p L (dirs.take j))
theorem scReach : FnScope ["_law_point", "_law_found", "_law_length", "_law_right", "_law_down", "_law_x", "_law_y"] ["_law_point"] (defScope sReach) := ⟨rfl, rfl, rfl, by decide +kernel, rfl, by decide +kernel, by decide +kernel⟩
theorem ok_reach {f : Addr} {fd : FuncData} (B : Blt mg) (F : Fun K "_law_reach" "_law_reach" sReach f fd) : FnOk P w K mg base CX0 1 f fd ["_law_point"] spReach := by
  refine F.ok scReach (fun vs H Q E h => ?_) (fun cdv A outer s H vs Q E hr h => ?_)
  · obtain ⟨v, p, rfl, _⟩ := h; rfl
  · obtain ⟨v, p, rfl, ⟨a, rfl, ha⟩, q⟩ := h
    refine ⟨_, (pss_cons (ps_set (i := 1) scReach.nd rfl (.inl rfl) (pe_lst pa_nil))
      (pss_cons (ps_for (PassesOwn.never) rfl (pi_range2 (by rfl) B.range (pa_cons pe_int (pa_cons pe_int pa_nil))) (pg_name (i := 2) scReach.nd rfl (.inl rfl))
      (pss_one (ps_for (PassesOwn.never) rfl (pi_list (pe_lst (pa_cons (pe_tup (pa_cons pe_int (pa_cons pe_int pa_nil))) (pa_cons (pe_tup (pa_cons pe_int (pa_cons pe_int pa_nil))) (pa_cons (pe_tup (pa_cons pe_int (pa_cons pe_int pa_nil))) (pa_cons (pe_tup (pa_cons (pe_un un_neg pe_int) (pa_cons pe_int pa_nil))) (pa_cons (pe_tup (pa_cons (pe_un un_neg pe_int) (pa_cons pe_int pa_nil))) (pa_cons (pe_tup (pa_cons (pe_un un_neg pe_int) (pa_cons (pe_un un_neg pe_int) pa_nil))) (pa_cons (pe_tup (pa_cons pe_int (pa_cons (pe_un un_neg pe_int) pa_nil))) (pa_cons (pe_tup (pa_cons pe_int (pa_cons (pe_un un_neg pe_int) pa_nil))) pa_nil)))))))))) (pg_tup rfl (pgs_cons (pg_name (i := 3) scReach.nd rfl (.inl rfl)) (pgs_cons (pg_name (i := 4) scReach.nd rfl (.inl rfl)) pgs_nil)))
       (pss_cons (ps_par (i := 5) (j := 6) (by rfl) scReach.nd rfl rfl (by decide) rfl rfl (pa_cons (pe_op op_add (pe_ix ix_tup (pv 0) pe_int (fun _ _ => rfl)) (pe_op op_mul (pv 2) (pv 3))) (pa_cons (pe_op op_add (pe_ix ix_tup (pv 0) pe_int (fun _ _ => rfl)) (pe_op op_mul (pv 2) (pv 4))) pa_nil)) (by rfl))
        (pss_one (ps_if (PW.pt (pw_and (pt_chain op_le op_le pe_int (pv 5) pe_int) (pw_and1 (pt_chain op_le op_le pe_int (pv 6) pe_int))))
        (pss_one (ps_expr (pe_bm PySem.F.plainAttrs_list PySem.F.slot_list_append PySem.F.type_list_append mt_append (pv 1) (pa_cons (pe_tup (pa_cons (pv 5) (pa_cons (pv 6) pa_nil))) pa_nil))))
        pss_nil))))))
      (pss_one (ps_ret (pv 1))))), ?_⟩
    refine ⟨Nat.zero_le _, fun o no => ?_⟩
    have s1 : Same H (upd H o (.lst [])) := same_new no
    have eo : (upd H o (.lst [])) o = some (.lst []) := upd_same
    generalize upd H o (.lst []) = H1 at s1 eo ⊢
    have z2 : 2 ≤ sizeLine := by decide
    refine ⟨1, 13, rfl, ⟨by decide, by decide, by decide, by decide⟩, ?_⟩
    refine for_range (lo := 1) (n := 12) (fun n σ H' => ∃ y2 y3 y4 y5 y6 vs, σ = [some (.ref a), some (.ref o), y2, y3, y4, y5, y6] ∧ Same H H' ∧ H' o = some (.lst vs) ∧ AllP H' vs (reachN p n))
      ⟨none, none, none, none, none, [], rfl, s1, eo, AllP.nil⟩ ?_ ?_
    · rintro n σ G0 hn ⟨y2, y3, y4, y5, y6, vs, rfl, sm, ho, hv⟩
      have eL : (1 : Int) + (n : Int) = (n : Int) + 1 := by omega
      rw [eL]
      refine ⟨z2, fun o0 n0 => ?_⟩
      have t0 : Same G0 (upd G0 o0 (.tup [.int 1, .int 0])) := same_new n0
      have e0 : (upd G0 o0 (.tup [.int 1, .int 0])) o0 = some (.tup [.int 1, .int 0]) := upd_same
      generalize upd G0 o0 (.tup [.int 1, .int 0]) = G1 at t0 e0 ⊢
      refine ⟨z2, fun o1 n1 => ?_⟩
      have t1 : Same G1 (upd G1 o1 (.tup [.int 1, .int 1])) := same_new n1
      have e1 : (upd G1 o1 (.tup [.int 1, .int 1])) o1 = some (.tup [.int 1, .int 1]) := upd_same
      generalize upd G1 o1 (.tup [.int 1, .int 1]) = G2 at t1 e1 ⊢
      refine ⟨z2, fun o2 n2 => ?_⟩
      have t2 : Same G2 (upd G2 o2 (.tup [.int 0, .int 1])) := same_new n2
      have e2 : (upd G2 o2 (.tup [.int 0, .int 1])) o2 = some (.tup [.int 0, .int 1]) := upd_same
      generalize upd G2 o2 (.tup [.int 0, .int 1]) = G3 at t2 e2 ⊢
      refine ⟨1, rfl, z2, fun o3 n3 => ?_⟩
      have t3 : Same G3 (upd G3 o3 (.tup [.int (-1), .int 1])) := same_new n3
      have e3 : (upd G3 o3 (.tup [.int (-1), .int 1])) o3 = some (.tup [.int (-1), .int 1]) := upd_same
      generalize upd G3 o3 (.tup [.int (-1), .int 1]) = G4 at t3 e3 ⊢
      refine ⟨1, rfl, z2, fun o4 n4 => ?_⟩
      have t4 : Same G4 (upd G4 o4 (.tup [.int (-1), .int 0])) := same_new n4
      have e4 : (upd G4 o4 (.tup [.int (-1), .int 0])) o4 = some (.tup [.int (-1), .int 0]) := upd_same
      generalize upd G4 o4 (.tup [.int (-1), .int 0]) = G5 at t4 e4 ⊢
      refine ⟨1, rfl, 1, rfl, z2, fun o5 n5 => ?_⟩
      have t5 : Same G5 (upd G5 o5 (.tup [.int (-1), .int (-1)])) := same_new n5
      have e5 : (upd G5 o5 (.tup [.int (-1), .int (-1)])) o5 = some (.tup [.int (-1), .int (-1)]) := upd_same
      generalize upd G5 o5 (.tup [.int (-1), .int (-1)]) = G6 at t5 e5 ⊢
      refine ⟨1, rfl, z2, fun o6 n6 => ?_⟩
      have t6 : Same G6 (upd G6 o6 (.tup [.int 0, .int (-1)])) := same_new n6
      have e6 : (upd G6 o6 (.tup [.int 0, .int (-1)])) o6 = some (.tup [.int 0, .int (-1)]) := upd_same
      generalize upd G6 o6 (.tup [.int 0, .int (-1)]) = G7 at t6 e6 ⊢
      refine ⟨1, rfl, z2, fun o7 n7 => ?_⟩
      have t7 : Same G7 (upd G7 o7 (.tup [.int 1, .int (-1)])) := same_new n7
      have e7 : (upd G7 o7 (.tup [.int 1, .int (-1)])) o7 = some (.tup [.int 1, .int (-1)]) := upd_same
      generalize upd G7 o7 (.tup [.int 1, .int (-1)]) = G8 at t7 e7 ⊢
      refine ⟨(by show 8 ≤ sizeLine; decide), fun l nl => ?_⟩
      have t8 : Same G8 (upd G8 l (.lst [.ref o0, .ref o1, .ref o2, .ref o3, .ref o4, .ref o5, .ref o6, .ref o7])) := same_new nl
      have e8 : (upd G8 l (.lst [.ref o0, .ref o1, .ref o2, .ref o3, .ref o4, .ref o5, .ref o6, .ref o7])) l = some (.lst [.ref o0, .ref o1, .ref o2, .ref o3, .ref o4, .ref o5, .ref o6, .ref o7]) := upd_same
      generalize upd G8 l (.lst [.ref o0, .ref o1, .ref o2, .ref o3, .ref o4, .ref o5, .ref o6, .ref o7]) = G9 at t8 e8 ⊢
      have i0 : IsP G9 (.ref o0) (1, 0) := ⟨o0, rfl, ((t1.trans (t2.trans (t3.trans (t4.trans (t5.trans (t6.trans (t7.trans t8)))))))) _ _ e0⟩
      have i1 : IsP G9 (.ref o1) (1, 1) := ⟨o1, rfl, ((t2.trans (t3.trans (t4.trans (t5.trans (t6.trans (t7.trans t8))))))) _ _ e1⟩
      have i2 : IsP G9 (.ref o2) (0, 1) := ⟨o2, rfl, ((t3.trans (t4.trans (t5.trans (t6.trans (t7.trans t8)))))) _ _ e2⟩
      have i3 : IsP G9 (.ref o3) (-1, 1) := ⟨o3, rfl, ((t4.trans (t5.trans (t6.trans (t7.trans t8))))) _ _ e3⟩
      have i4 : IsP G9 (.ref o4) (-1, 0) := ⟨o4, rfl, ((t5.trans (t6.trans (t7.trans t8)))) _ _ e4⟩
      have i5 : IsP G9 (.ref o5) (-1, -1) := ⟨o5, rfl, ((t6.trans (t7.trans t8))) _ _ e5⟩
      have i6 : IsP G9 (.ref o6) (0, -1) := ⟨o6, rfl, ((t7.trans t8)) _ _ e6⟩
      have i7 : IsP G9 (.ref o7) (1, -1) := ⟨o7, rfl, (t8) _ _ e7⟩
      have hall : AllP G9 [.ref o0, .ref o1, .ref o2, .ref o3, .ref o4, .ref o5, .ref o6, .ref o7] dirs := (AllP.cons i0 (AllP.cons i1 (AllP.cons i2 (AllP.cons i3 (AllP.cons i4 (AllP.cons i5 (AllP.cons i6 (AllP.cons i7 AllP.nil))))))))
      have t : Same G0 G9 := (t0.trans (t1.trans (t2.trans (t3.trans (t4.trans (t5.trans (t6.trans (t7.trans t8))))))))
      have hol : o ≠ l := fun z => by subst z; rw [(t0.trans (t1.trans (t2.trans (t3.trans (t4.trans (t5.trans (t6.trans t7))))))) _ _ ho] at nl; cases nl
      generalize hls : ([.ref o0, .ref o1, .ref o2, .ref o3, .ref o4, .ref o5, .ref o6, .ref o7] : List V) = ls at e8 hall ⊢
      refine ⟨l, rfl, ⟨_, SqL.of e8⟩, for_list (K := K) (a := l) (xs := ls) (PvR a o l p ((n : Int) + 1) (reachN p n) H G9 ls) ⟨y3, y4, y5, y6, vs, rfl, sm.trans t, SameT.refl _, e8, t _ _ ho, ?_⟩ (fun j σ H' _ ⟨_, _, _, _, _, _, _, _, hl, _⟩ => SqL.of hl) ?_ ?_⟩
      · have e0 : rowR p ((n : Int) + 1) (dirs.take 0) = [] := rfl
        rw [e0, List.append_nil]; exact hv.mono t
      · rintro j x σ H' hj ⟨y3, y4, y5, y6, vs, rfl, sm', st', hl', ho', hv'⟩
        obtain ⟨d, ed, b, rfl, hb⟩ := hall.get' hj
        have hlen := hv'.1
        have hbnd : (reachN p n ++ rowR p ((n : Int) + 1) (dirs.take j)).length < 1000 := by
          have h1 := reachN_len p n
          have h2 := rowR_len p ((n : Int) + 1) (dirs.take j)
          have h3 : (dirs.take j).length ≤ dirs.length := by rw [List.length_take]; exact Nat.min_le_right _ _
          have h4 : dirs.length = 8 := rfl
          rw [List.length_append]; omega
        have hnx := rowR_next (p := p) (L := (n : Int) + 1) ed
        refine ⟨b, _, rfl, SqT.of (st' _ _ hb), rfl, _, _, rfl, _, _, rfl, rfl, ?_⟩
        have haa : H' a = some (.tup [.int p.1, .int p.2]) := sm' _ _ ha
        refine ⟨.ref a, rfl, a, _, 0, .int p.1, rfl, rfl, SqT.of haa, atI_nat (j := 0) rfl, .int ((n : Int) + 1), rfl, .int d.1, rfl, (n : Int) + 1, d.1, rfl, rfl, .inl ⟨by omega, by omega⟩, p.1, _, rfl, rfl, ?_⟩
        refine ⟨.ref a, rfl, a, _, 1, .int p.2, rfl, rfl, SqT.of haa, atI_nat (j := 1) rfl, .int ((n : Int) + 1), rfl, .int d.2, rfl, (n : Int) + 1, d.2, rfl, rfl, .inl ⟨by omega, by omega⟩, p.2, _, rfl, rfl, ?_⟩
        refine ⟨_, _, rfl, ?_⟩
        have skip : ∀ z5 z6, inG (stepP p ((n : Int) + 1) d) = false → PvR a o l p ((n : Int) + 1) (reachN p n) H G9 ls (j + 1) [some (.ref a), some (.ref o), some (.int ((n : Int) + 1)), some (.int d.1), some (.int d.2), z5, z6] H' := fun z5 z6 hf => by
          refine ⟨_, _, _, _, vs, rfl, sm', st', hl', ho', ?_⟩
          rw [hnx, hf, if_neg Bool.false_ne_true, List.append_nil]; exact hv'
        refine ⟨.int (stepP p ((n : Int) + 1) d).1, rfl, 0, _, rfl, rfl, _, rfl, ite2 (fun h0 => ⟨_, 12, rfl, rfl, _, rfl, ite2 (fun h1 => ?_) (fun h1 => skip _ _ ?_)⟩) (fun h0 => ⟨false, rfl, iteF (skip _ _ ?_)⟩)⟩
        · refine ⟨.int (stepP p ((n : Int) + 1) d).2, rfl, 0, _, rfl, rfl, _, rfl, ite2 (fun h2 => ⟨_, 12, rfl, rfl, _, rfl, ite2 (fun h3 => ?_) (fun h3 => skip _ _ ?_)⟩) (fun h2 => ⟨false, rfl, iteF (skip _ _ ?_)⟩)⟩
          · have hg : inG (stepP p ((n : Int) + 1) d) = true := by
              unfold inG
              rw [show decide (0 ≤ (stepP p ((n : Int) + 1) d).1) = true from h0, show decide ((stepP p ((n : Int) + 1) d).1 ≤ 12) = true from h1, show decide (0 ≤ (stepP p ((n : Int) + 1) d).2) = true from h2, show decide ((stepP p ((n : Int) + 1) d).2 ≤ 12) = true from h3]; rfl
            refine ⟨.ref o, rfl, .inl ⟨rfl, _, SqL.of ho'⟩, .int (stepP p ((n : Int) + 1) d).1, rfl, .int (stepP p ((n : Int) + 1) d).2, rfl, z2, fun t nt => ?_⟩
            have u1 : Same H' (upd H' t (.tup [.int (stepP p ((n : Int) + 1) d).1, .int (stepP p ((n : Int) + 1) d).2])) := same_new nt
            have et : (upd H' t (.tup [.int (stepP p ((n : Int) + 1) d).1, .int (stepP p ((n : Int) + 1) d).2])) t = some (.tup [.int (stepP p ((n : Int) + 1) d).1, .int (stepP p ((n : Int) + 1) d).2]) := upd_same
            generalize upd H' t (.tup [.int (stepP p ((n : Int) + 1) d).1, .int (stepP p ((n : Int) + 1) d).2]) = H2 at u1 et ⊢
            have ho2 := u1 _ _ ho'
            refine ⟨o, _, _, rfl, rfl, ho2, small1000 (by omega), ?_⟩
            have u2 : SameT H2 (upd H2 o (.lst (vs ++ [.ref t]))) := SameT.lst ho2
            refine ⟨_, _, _, _, vs ++ [.ref t], rfl, same_at (sm'.trans u1) no, (st'.trans (tups_of u1)).trans u2, ?_, upd_same, ?_⟩
            · rw [upd_ne (Ne.symm hol)]; exact u1 _ _ hl'
            · rw [hnx, hg, if_pos rfl, ← List.append_assoc]
              exact ((hv'.mono u1).monoT u2).snoc ⟨t, rfl, u2 _ _ et⟩
          · unfold inG; rw [show decide ((stepP p ((n : Int) + 1) d).2 ≤ 12) = false by simpa using h3]; simp
          · unfold inG; rw [show decide (0 ≤ (stepP p ((n : Int) + 1) d).2) = false by simpa using h2]; simp
        · unfold inG; rw [show decide ((stepP p ((n : Int) + 1) d).1 ≤ 12) = false by simpa using h1]; simp
        · unfold inG; rw [show decide (0 ≤ (stepP p ((n : Int) + 1) d).1) = false by simpa using h0]; simp
      · rintro σ H' ⟨y3, y4, y5, y6, vs, rfl, sm', st', hl', ho', hv'⟩
        refine ⟨_, _, _, _, _, vs, rfl, sm', ho', ?_⟩
        rw [reachN_succ]
        have ej : dirs.take ls.length = dirs := by rw [hall.1, List.take_length]
        rw [ej] at hv'; exact hv'
    · rintro σ H' ⟨y2, y3, y4, y5, y6, vs, rfl, sm, ho, hv⟩
      exact ⟨.ref o, rfl, q H' o vs sm no ho hv⟩
end
end K21

set_option maxRecDepth 100000
set_option maxHeartbeats 4000000
namespace K21
open PySem PySem.Spec PyProof.Rows L2
theorem ab_zero {i : Int} : ab i = 0 ↔ i = 0 := by unfold ab; split <;> omega
theorem ab_same {i j : Int} (h : j = i ∨ j = -i) : ab i = ab j := by unfold ab; split <;> split <;> omega
theorem okE_of {p q : Pt} (h : (q.1 = p.1 ∧ q.2 ≠ p.2) ∨ (q.1 ≠ p.1 ∧ q.2 = p.2) ∨ (q.1 ≠ p.1 ∧ (q.2 - p.2 = q.1 - p.1 ∨ q.2 - p.2 = -(q.1 - p.1)))) : okE p q = true := by
  unfold okE
  rcases h with ⟨h1, h2⟩ | ⟨h1, h2⟩ | ⟨h1, h2⟩
  · have e1 : ab (q.1 - p.1) = 0 := ab_zero.mpr (by omega)
    have e2 : ab (q.2 - p.2) ≠ 0 := fun z => h2 (by have := ab_zero.mp z; omega)
    simp [e1, e2]
  · have e1 : ab (q.1 - p.1) ≠ 0 := fun z => h1 (by have := ab_zero.mp z; omega)
    have e2 : ab (q.2 - p.2) = 0 := ab_zero.mpr (by omega)
    simp [e1, e2]
  · have e1 : ab (q.1 - p.1) ≠ 0 := fun z => h1 (by have := ab_zero.mp z; omega)
    have e2 := ab_same h2
    simp [e1, ← e2]
theorem inG_iff {p : Pt} : inG p = true ↔ (0 ≤ p.1 ∧ p.1 ≤ 12) ∧ (0 ≤ p.2 ∧ p.2 ≤ 12) := by simp [inG]
theorem mem_reach {p q : Pt} : q ∈ reach p ↔ ∃ n : Nat, n < 12 ∧ ∃ d ∈ dirs, stepP p ((n : Int) + 1) d = q ∧ inG q = true := by
  unfold reach reachN rowR
  rw [List.mem_flatMap]
  constructor
  · rintro ⟨n, hn, h⟩
    obtain ⟨h1, h2⟩ := List.mem_filter.mp h
    obtain ⟨d, hd, e⟩ := List.mem_map.mp h1
    exact ⟨n, List.mem_range.mp hn, d, hd, e, h2⟩
  · rintro ⟨n, hn, d, hd, e, h⟩
    exact ⟨n, List.mem_range.mpr hn, List.mem_filter.mpr ⟨List.mem_map.mpr ⟨d, hd, e⟩, h⟩⟩
theorem reach_inG {p q : Pt} (h : q ∈ reach p) : inG q = true := let ⟨_, _, _, _, _, g⟩ := mem_reach.mp h; g
theorem reach_ok {p q : Pt} (h : q ∈ reach p) : okE p q = true ∧ okE q p = true := by
  obtain ⟨n, hn, d, hd, e, _⟩ := mem_reach.mp h
  have e1 : q.1 = p.1 + ((n : Int) + 1) * d.1 := by rw [← e]; rfl
  have e2 : q.2 = p.2 + ((n : Int) + 1) * d.2 := by rw [← e]; rfl
  have hd' : d = (1, 0) ∨ d = (1, 1) ∨ d = (0, 1) ∨ d = (-1, 1) ∨ d = (-1, 0) ∨ d = (-1, -1) ∨ d = (0, -1) ∨ d = (1, -1) := by simpa [dirs] using hd
  rcases hd' with z | z | z | z | z | z | z | z <;> subst z <;> dsimp only at e1 e2 <;> exact ⟨okE_of (by omega), okE_of (by omega)⟩
theorem reach_h {p q : Pt} (hq : inG q = true) (hp : inG p = true) (h1 : q.1 ≠ p.1) (h2 : q.2 = p.2) : q ∈ reach p := by
  obtain ⟨⟨a1, a2⟩, a3, a4⟩ := inG_iff.mp hq
  obtain ⟨⟨b1, b2⟩, b3, b4⟩ := inG_iff.mp hp
  refine mem_reach.mpr ?_
  by_cases hlt : p.1 < q.1
  · refine ⟨(q.1 - p.1 - 1).toNat, by omega, (1, 0), by simp [dirs], Prod.ext ?_ ?_, hq⟩
    · show p.1 + (((q.1 - p.1 - 1).toNat : Int) + 1) * 1 = q.1; omega
    · show p.2 + (((q.1 - p.1 - 1).toNat : Int) + 1) * 0 = q.2; omega
  · refine ⟨(p.1 - q.1 - 1).toNat, by omega, (-1, 0), by simp [dirs], Prod.ext ?_ ?_, hq⟩
    · show p.1 + (((p.1 - q.1 - 1).toNat : Int) + 1) * (-1) = q.1; omega
    · show p.2 + (((p.1 - q.1 - 1).toNat : Int) + 1) * 0 = q.2; omega
theorem reach_v {p q : Pt} (hq : inG q = true) (hp : inG p = true) (h1 : q.2 ≠ p.2) (h2 : q.1 = p.1) : q ∈ reach p := by
  obtain ⟨⟨a1, a2⟩, a3, a4⟩ := inG_iff.mp hq
  obtain ⟨⟨b1, b2⟩, b3, b4⟩ := inG_iff.mp hp
  refine mem_reach.mpr ?_
  by_cases hlt : p.2 < q.2
  · refine ⟨(q.2 - p.2 - 1).toNat, by omega, (0, 1), by simp [dirs], Prod.ext ?_ ?_, hq⟩
    · show p.1 + (((q.2 - p.2 - 1).toNat : Int) + 1) * 0 = q.1; omega
    · show p.2 + (((q.2 - p.2 - 1).toNat : Int) + 1) * 1 = q.2; omega
  · refine ⟨(p.2 - q.2 - 1).toNat, by omega, (0, -1), by simp [dirs], Prod.ext ?_ ?_, hq⟩
    · show p.1 + (((p.2 - q.2 - 1).toNat : Int) + 1) * 0 = q.1; omega
    · show p.2 + (((p.2 - q.2 - 1).toNat : Int) + 1) * (-1) = q.2; omega
theorem third (a b : Int) : ∃ e : Int, 0 ≤ e ∧ e ≤ 12 ∧ e ≠ a ∧ e ≠ b := by
  by_cases h0 : a ≠ 0 ∧ b ≠ 0
  · exact ⟨0, by omega, by omega, by omega, by omega⟩
  · by_cases h1 : a ≠ 1 ∧ b ≠ 1
    · exact ⟨1, by omega, by omega, by omega, by omega⟩
    · exact ⟨2, by omega, by omega, by omega, by omega⟩
theorem common {p q : Pt} (hp : inG p = true) (hq : inG q = true) : ∃ z, z ∈ reach p ∧ z ∈ reach q := by
  obtain ⟨⟨a1, a2⟩, a3, a4⟩ := inG_iff.mp hq
  obtain ⟨⟨b1, b2⟩, b3, b4⟩ := inG_iff.mp hp
  by_cases hx : q.1 = p.1
  · obtain ⟨e, h0, h1, h2, h3⟩ := third p.2 q.2
    have hz : inG (p.1, e) = true := inG_iff.mpr ⟨⟨b1, b2⟩, h0, h1⟩
    exact ⟨(p.1, e), reach_v hz hp h2 rfl, reach_v hz hq h3 hx.symm⟩
  · by_cases hy : q.2 = p.2
    · obtain ⟨e, h0, h1, h2, h3⟩ := third p.1 q.1
      have hz : inG (e, p.2) = true := inG_iff.mpr ⟨⟨h0, h1⟩, b3, b4⟩
      exact ⟨(e, p.2), reach_h hz hp h2 rfl, reach_h hz hq h3 hy.symm⟩
    · have hz : inG (q.1, p.2) = true := inG_iff.mpr ⟨⟨a1, a2⟩, b3, b4⟩
      exact ⟨(q.1, p.2), reach_h hz hp hx rfl, reach_v hz hq (Ne.symm hy) rfl⟩
theorem reach_len (p : Pt) : (reach p).length ≤ 96 := reachN_len p 12
/-! ### points as data -/
def pd (p : Pt) : PyData := .tuple [.int p.1, .int p.2]
theorem eqv_pd (a b : Pt) : PyData.eqv (pd a) (pd b) = true ↔ a = b := by
  rw [pd, pd, eqv_pair, Bool.and_eq_true, decide_eq_true_iff, decide_eq_true_iff]
  exact ⟨fun h => Prod.ext h.1 h.2, fun h => by rw [h]; exact ⟨rfl, rfl⟩⟩
theorem any_pd (ps : List Pt) (q : Pt) : ((ps.map pd).any fun z => PyData.eqv z (pd q)) = true ↔ q ∈ ps := by
  rw [List.any_eq_true]
  constructor
  · rintro ⟨z, hz, e⟩
    obtain ⟨p, hp, rfl⟩ := List.mem_map.mp hz
    rw [← (eqv_pd p q).mp e]; exact hp
  · intro h
    exact ⟨pd q, List.mem_map.mpr ⟨q, h, rfl⟩, (eqv_pd q q).mpr rfl⟩
theorem lay_pts : ∀ ps : List Pt, PyData.canLayAll0 (ps.map pd) = true
  | [] => by simp [PyData.canLayAll0]
  | p :: ps => by simp [PyData.canLayAll0, pd, PyData.canLay0]; exact lay_pts ps
theorem deep_pts : ∀ ps : List Pt, PyData.depthAll (ps.map pd) ≤ 2
  | [] => by simp [PyData.depthAll]
  | p :: ps => by
    have h := deep_pts ps
    simp only [List.map_cons, PyData.depthAll, PyData.depth, pd]; omega
theorem shaped_pts (ps : List Pt) : SeqAt.shaped (.list (ps.map pd)) = true := by
  have h := deep_pts ps
  show ((PyData.canLay0 (.list (ps.map pd))) && decide ((PyData.depth (.list (ps.map pd))) ≤ 64)) = true
  rw [Bool.and_eq_true]
  refine ⟨by simp only [PyData.canLay0]; exact lay_pts ps, decide_eq_true ?_⟩
  simp only [PyData.depth]; omega
theorem AllP.tail {H : Hp} {v : V} {p : Pt} {xs : List V} {ps : List Pt} (h : AllP H (v :: xs) (p :: ps)) : IsP H v p ∧ AllP H xs ps :=
  ⟨h.2 0 v p rfl rfl, by have := h.1; simpa using this, fun i w q a b => h.2 (i + 1) w q (by simpa using a) (by simpa using b)⟩
theorem dp_pt {K : PySem.W.Frag} {H : Hp} {v : V} {p : Pt} (h : IsP H v p) : Dp K H v (pd p) := by
  obtain ⟨a, rfl, h⟩ := h
  exact .tup (SqT.of h) (.cons (.int _) (.cons (.int _) .nil))
theorem dp_pts {K : PySem.W.Frag} {H : Hp} : ∀ {xs : List V} {ps : List Pt}, AllP H xs ps → DpAll K H xs (ps.map pd)
  | [], [], _ => .nil
  | _ :: _, [], h => by have := h.1; simp at this
  | [], _ :: _, h => by have := h.1; simp at this
  | v :: xs, p :: ps, h => .cons (dp_pt h.tail.1) (dp_pts h.tail.2)
theorem AllP.take {H : Hp} {xs : List V} {ps : List Pt} (h : AllP H xs ps) (n : Nat) : AllP H (xs.take n) (ps.take n) := by
  refine ⟨by simp [h.1], fun i v p a b => ?_⟩
  rw [List.getElem?_take] at a b
  by_cases hn : i < n
  · rw [if_pos hn] at a b; exact h.2 i v p a b
  · rw [if_neg hn] at a; cases a
theorem cut8 (xs : List V) : cutV xs none (some 8) = xs.take 8 := by
  show cutV xs none (some ((8 : Nat) : Int)) = _
  unfold cutV
  rw [HT.sIx_none, HT.sIx_nat]
  simp [List.take_take]
end K21

set_option maxRecDepth 100000
set_option maxHeartbeats 4000000
namespace K21
open PySem PySem.Spec PyProof.Rows L2
/-- three to sixteen points of the grid, each edge allowed -/
def GoodR (ring : List Pt) : Prop := 3 ≤ ring.length ∧ ring.length ≤ 16 ∧ (∀ p ∈ ring, inG p = true) ∧ ∀ (j : Nat) (p q : Pt), ring[j]? = some p → ring[(j + 1) % ring.length]? = some q → okE p q = true
def limR : List Int := [14, 13, 13, 3, 48, 48, 48, 48, 48, 48, 48, 48, 48, 48, 48, 48, 48, 48, 48]
section
variable {P : Program} {w : World} {K : PySem.W.Frag} {mg : Str → Option Value} {base : Heap}
def spRing : Sp := fun vs H Q _ => ∃ (c : Int), vs = [.int c] ∧ ∀ H' v ring, Same H H' → IsRg H' v ring → GoodR ring → Q v H'
theorem scRing : FnScope ["_law_cell_here", "_law_row_here", "_law_ring_here", "_law_back", "_law_k", "_law_options", "_law_point"] ["_law_cell_here"] (defScope sRing) := ⟨rfl, rfl, rfl, by decide +kernel, rfl, by decide +kernel, by decide +kernel⟩
theorem at_neg1 {xs : List V} {v : V} (h : xs[xs.length - 1]? = some v) : atI xs (-1) = some v := by
  have hne : xs ≠ [] := fun z => by subst z; simp at h
  have e := List.dropLast_concat_getLast hne
  have ev : xs.getLast hne = v := by rw [List.getLast_eq_getElem]; exact (List.getElem?_eq_some_iff.mp h).2
  rw [← e, ev]; exact atI_last _ _
/-- between the statements of a turn -/
def MidR (c : Int) (r g b : Addr) (k : Nat) (m : Nat) (last p0 : Pt) (close : Bool) (G : Hp) : L2.St → Hp → Prop := fun σ H' => ∃ oa opts xs y6, σ = [some (.int c), some (.ref r), some (.ref g), some (.ref b), some (.int (k : Nat)), some (.ref oa), y6] ∧ Same G H' ∧ H' oa = some (.lst xs) ∧ AllP H' xs opts ∧ opts ≠ [] ∧ opts.length ≤ 96 ∧
  ∀ z ∈ opts, z ∈ reach last ∧ (close = true → k = m + 1 → z ∈ reach p0)
theorem ok_ring {f f_row f_reach : Addr} {fd fd_row fd_reach : FuncData} (B : Blt mg) (F : Fun K "_law_ring" "_law_ring" sRing f fd)
    (F_row : Fun K "_law_row" "_law_row" sRow f_row fd_row) (b_row : Binds K fd_row ["_law_cell_here", "_law_limits"] []) (g_row : mg "_law_row" = some (.ref f_row))
    (F_reach : Fun K "_law_reach" "_law_reach" sReach f_reach fd_reach) (b_reach : Binds K fd_reach ["_law_point"] []) (g_reach : mg "_law_reach" = some (.ref f_reach)) :
    FnOk P w K mg base CX0 2 f fd ["_law_cell_here"] spRing := by
  have G_row : FnOk P w K mg base CX0 1 f_row fd_row ["_law_cell_here", "_law_limits"] (spRow K) := ok_row B F_row
  have G_reach : FnOk P w K mg base CX0 1 f_reach fd_reach ["_law_point"] spReach := ok_reach B F_reach
  refine F.ok scRing (fun vs H Q E h => ?_) (fun cdv A outer s H vs Q E hr h => ?_)
  · obtain ⟨c, rfl, _⟩ := h; rfl
  · obtain ⟨c, rfl, q⟩ := h
    refine ⟨_, (pss_cons (ps_set (i := 1) scRing.nd rfl (.inl rfl) (pe_call G_row hr (by rfl) g_row F_row.kp b_row .nil pass0 (pa_cons (pv 0) (pa_cons (pe_op op_cat (pe_lst (pa_cons pe_int (pa_cons pe_int (pa_cons pe_int (pa_cons pe_int pa_nil))))) (pe_op op_rep (pe_lst (pa_cons pe_int pa_nil)) pe_int)) pa_nil))))
      (pss_cons (ps_set (i := 2) scRing.nd rfl (.inl rfl) (pe_lst (pa_cons (pe_tup (pa_cons (pe_ix ix_list (pv 1) pe_int (fun _ _ => rfl)) (pa_cons (pe_ix ix_list (pv 1) pe_int (fun _ _ => rfl)) pa_nil))) pa_nil)))
      (pss_cons (ps_set (i := 3) scRing.nd rfl (.inr rfl) (pe_call G_reach hr (by rfl) g_reach F_reach.kp b_reach .nil pass0 (pa_cons (pe_ix ix_list (pv 2) pe_int (fun _ _ => rfl)) pa_nil)))
      (pss_cons (ps_for (PassesOwn.never) rfl (pi_range1 (by rfl) B.range (pa_cons (pe_op op_add (pe_ix ix_list (pv 1) pe_int (fun _ _ => rfl)) pe_int) pa_nil)) (pg_name (i := 4) scRing.nd rfl (.inl rfl))
      (pss_cons (ps_set (i := 5) scRing.nd rfl (.inl rfl) (pe_call G_reach hr (by rfl) g_reach F_reach.kp b_reach .nil pass0 (pa_cons (pe_ix ix_list (pv 2) (pe_un un_neg pe_int) (fun _ _ => rfl)) pa_nil)))
       (Evl.pss_cut (ps_if (pt_cmpR op_eq (pv 4) (pe_op op_add (pe_ix ix_list (pv 1) pe_int (fun _ _ => rfl)) pe_int) (nomark _))
       (pss_one (ps_setLc (i := 5) (own := [("_law_point", 6)]) (g := gName 6) rfl scRing.nd rfl rfl (sw_true rfl rfl rfl (by decide +kernel)) (pi_list (pv 5)) (blkOk_by (N := ["_law_cell_here", "_law_row_here", "_law_ring_here", "_law_back", "_law_k", "_law_options", "_law_point"]) (sc := defScope sRing) (by decide +kernel)) (fun _ _ _ _ _ => (pg_name (i := 6) scRing.nd rfl (.inl rfl))) (fun _ _ _ _ _ => pts_one (pt_cmpR (show OpR _ (compareOp .In) (rInD K) from op_inD (room65 hr)) (pv 6) (pv 3) (by with_unfolding_all rfl))) (fun _ _ _ _ _ => (pv 6))))
       pss_nil)
       (Evl.pss_cut (ps_if (pt_cmpR op_eq (pe_ix ix_list (pv 1) pe_int (fun _ _ => rfl)) pe_int (nomark _))
       (pss_one (ps_set (i := 5) scRing.nd rfl (.inl rfl) (pe_slice sl_list (pv 5) po_none (po_some pe_int))))
       pss_nil)
       (pss_one (ps_expr (pe_bm PySem.F.plainAttrs_list PySem.F.slot_list_append PySem.F.type_list_append mt_append (pv 2) (pa_cons (pe_ix ix_list (pv 5) (pe_op op_modN (pe_callTy call_int1 (by rfl) B.int (by decide +kernel) (pa_cons (pe_ix ix_list (pv 1) (pe_op op_add (pv 4) pe_int) (fun _ _ => rfl)) pa_nil)) (pe_callB call_len (by rfl) B.len PySem.boot_len (pa_cons (pv 5) pa_nil))) (fun _ _ => rfl)) pa_nil))))))))
      (pss_one (ps_ret (pe_callTy call_tuple_of (by rfl) B.tuple (by decide +kernel) (pa_cons (pv 2) pa_nil)))))))), ?_⟩
    have z1 : 1 ≤ sizeLine := by decide
    have z2 : 2 ≤ sizeLine := by decide
    refine ⟨.int c, rfl, (by show 4 ≤ sizeLine; decide), fun l1 n1 => ⟨z1, fun l2 n2 => ?_⟩⟩
    have t1 : Same H (upd H l1 (.lst [.int 14, .int 13, .int 13, .int 3])) := same_new n1
    have e1 : (upd H l1 (.lst [.int 14, .int 13, .int 13, .int 3])) l1 = some (.lst [.int 14, .int 13, .int 13, .int 3]) := upd_same
    generalize upd H l1 (.lst [.int 14, .int 13, .int 13, .int 3]) = H1 at t1 e1 n2 ⊢
    have t2 : Same H1 (upd H1 l2 (.lst [.int 48])) := same_new n2
    have e2 : (upd H1 l2 (.lst [.int 48])) l2 = some (.lst [.int 48]) := upd_same
    generalize upd H1 l2 (.lst [.int 48]) = H2 at t2 e2 ⊢
    refine ⟨l2, 15, _, rfl, rfl, e2, by decide, by decide, by show 1 * 15 ≤ sizeLine; decide, fun l3 n3 => ?_⟩
    have t3 : Same H2 (upd H2 l3 (.lst (List.replicate (15 : Int).toNat [V.int 48]).flatten)) := same_new n3
    have e3 : (upd H2 l3 (.lst (List.replicate (15 : Int).toNat [V.int 48]).flatten)) l3 = some (.lst (List.replicate (15 : Int).toNat [V.int 48]).flatten) := upd_same
    generalize upd H2 l3 (.lst (List.replicate (15 : Int).toNat [V.int 48]).flatten) = H3 at t3 e3 ⊢
    refine ⟨l1, l3, _, _, rfl, rfl, (t2.trans t3) _ _ e1, e3, by show 19 ≤ sizeLine; decide, fun l4 n4 => ?_⟩
    have t4 : Same H3 (upd H3 l4 (.lst (limR.map V.int))) := same_new n4
    have e4 : (upd H3 l4 (.lst (limR.map V.int))) l4 = some (.lst (limR.map V.int)) := upd_same
    have ew : ([.int 14, .int 13, .int 13, .int 3] ++ (List.replicate (15 : Int).toNat [V.int 48]).flatten : List V) = limR.map V.int := rfl
    rw [ew]
    generalize upd H3 l4 (.lst (limR.map V.int)) = H4 at t4 e4 ⊢
    refine ⟨c, l4, limR, rfl, SqL.of e4, by decide, by decide, fun H5 r rs t5 nr er hrow => ?_⟩
    have hrl : rs.length = 19 := hrow.1
    obtain ⟨m, em, hm0, hm1⟩ := hrow.2 0 14 rfl
    obtain ⟨x0, ex, hx0, hx1⟩ := hrow.2 1 13 rfl
    obtain ⟨y0, ey, hy0, hy1⟩ := hrow.2 2 13 rfl
    obtain ⟨u3, eu, _, _⟩ := hrow.2 3 3 rfl
    have at_ : ∀ {j : Nat} {v : Int}, rs[j]? = some v → (rs.map V.int)[j]? = some (.int v) := fun e => by rw [List.getElem?_map, e]; rfl
    obtain ⟨m, rfl⟩ : ∃ n : Nat, m = (n : Int) := ⟨m.toNat, by omega⟩
    refine ⟨.ref r, rfl, r, _, 1, .int x0, rfl, rfl, SqL.of er, atI_nat (at_ ex), .ref r, rfl, r, _, 2, .int y0, rfl, rfl, SqL.of er, atI_nat (at_ ey), z2, fun l6 n6 => ?_⟩
    have t6 : Same H5 (upd H5 l6 (.tup [.int x0, .int y0])) := same_new n6
    have e6 : (upd H5 l6 (.tup [.int x0, .int y0])) l6 = some (.tup [.int x0, .int y0]) := upd_same
    generalize upd H5 l6 (.tup [.int x0, .int y0]) = H6 at t6 e6 ⊢
    refine ⟨z1, fun g ng => ?_⟩
    have t7 : Same H6 (upd H6 g (.lst [.ref l6])) := same_new ng
    have e7 : (upd H6 g (.lst [.ref l6])) g = some (.lst [.ref l6]) := upd_same
    have hgr : g ≠ r := fun z => by rw [z, t6 _ _ er] at ng; cases ng
    have hgH : H g = none := by
      cases e : H g with
      | none => rfl
      | some o => rw [(t1.trans (t2.trans (t3.trans (t4.trans (t5.trans t6))))) _ _ e] at ng; cases ng
    generalize upd H6 g (.lst [.ref l6]) = H7 at t7 e7 ⊢
    have hp0 : IsP H7 (.ref l6) (x0, y0) := ⟨l6, rfl, t7 _ _ e6⟩
    have g0 : inG (x0, y0) = true := inG_iff.mpr ⟨⟨by omega, by show x0 ≤ 12; omega⟩, by show 0 ≤ y0; omega, by show y0 ≤ 12; omega⟩
    generalize hP : ((x0, y0) : Pt) = p0 at hp0 g0
    refine ⟨.ref g, rfl, g, _, 0, .ref l6, rfl, rfl, SqL.of e7, atI_nat (j := 0) rfl, .ref l6, p0, rfl, hp0, fun H8 b bs t8 nb eb hbs => ?_⟩
    have hgb : g ≠ b := fun z => by rw [← z, e7] at nb; cases nb
    have sA : Same H H8 := (t1.trans (t2.trans (t3.trans (t4.trans (t5.trans (t6.trans (t7.trans t8)))))))
    refine ⟨.ref r, rfl, r, _, 0, .int (m : Nat), rfl, rfl, SqL.of ((t6.trans (t7.trans t8)) _ _ er), atI_nat (at_ em), m, 2, rfl, rfl, (m : Int) + 2, rfl, by omega, by omega, ?_⟩
    have em2 : ((m : Int) + 2).toNat = m + 2 := by omega
    rw [em2]
    refine for_range (lo := 0) (n := m + 2) (fun k σ H' => ∃ y4 y5 y6 vs ring, σ = [some (.int c), some (.ref r), some (.ref g), some (.ref b), y4, y5, y6] ∧ Same H H' ∧ H' r = some (.lst (rs.map V.int)) ∧ H' b = some (.lst bs) ∧ AllP H' bs (reach p0) ∧ H' g = some (.lst vs) ∧ AllP H' vs ring ∧
        ring.length = k + 1 ∧ ring[0]? = some p0 ∧ (∀ p ∈ ring, inG p = true) ∧ (∀ j p q, ring[j]? = some p → ring[j + 1]? = some q → okE p q = true) ∧ (k = m + 2 → ∀ z, ring[k]? = some z → z ∈ reach p0))
      ⟨none, none, none, [.ref l6], [p0], rfl, sA, (t6.trans (t7.trans t8)) _ _ er, eb, hbs, t8 _ _ e7, AllP.cons (hp0.mono t8) AllP.nil, rfl, rfl, fun p hp => by simp at hp; rw [hp]; exact g0, fun j p q h1 h2 => by simp at h2, fun h => by omega⟩ ?_ ?_
    · rintro k σ G hk ⟨y4, y5, y6, vs, ring, rfl, sm, hr', hb', hbs', hg', hvs, hlen, h0, hin, hcon, _⟩
      have e0 : (0 : Int) + (k : Int) = (k : Int) := by omega
      rw [e0]
      have hlast : ring[k]? = some (ring[k]'(by omega)) := by simp
      generalize ring[k]'(by omega) = last at hlast
      obtain ⟨vl, evl, hvl⟩ := hvs.get hlast
      have hgl : inG last = true := hin _ (List.mem_of_getElem? hlast)
      have hvlen := hvs.1
      have eneg : vs[vs.length - 1]? = some vl := by rw [show vs.length - 1 = k by omega]; exact evl
      refine ⟨.ref g, rfl, 1, rfl, g, vs, -1, vl, rfl, rfl, SqL.of hg', at_neg1 eneg, vl, last, rfl, hvl, fun G1 oa xs u1 noa eoa hoa => ?_⟩
      refine ⟨MidR c r g b k m last p0 true G, ?_, fun σ' G2 ⟨oa, opts, xs, y6, eσ, u2, eoa, hoa, hne, hol, hz⟩ => ?_⟩
      · refine ⟨.int (k : Int), rfl, .ref r, rfl, r, _, 0, .int (m : Nat), rfl, rfl, SqL.of (u1 _ _ hr'), atI_nat (at_ em), m, 1, rfl, rfl, rfl, _, rfl, ite2 (fun hkm => ?_) (fun hkm => ?_)⟩
        · have hkm' : (k : Int) = (m : Int) + 1 := by simpa using hkm
          refine ⟨.ref oa, rfl, oa, rfl, ⟨_, SqL.of eoa⟩, fun D hD => ?_⟩
          have hDb : D ≠ b := fun z => by rw [z, u1 _ _ hb'] at hD; cases hD
          refine lc_list (K := K) (a := oa) (xs := xs) (fun i H' => ∃ ys, Same G1 H' ∧ H' D = some (.lst ys) ∧ AllP H' ys (((reach last).take i).filter fun z => decide (z ∈ reach p0))) ⟨[], same_new hD, upd_same, AllP.nil⟩ (fun i H' _ ⟨_, s, _⟩ => SqL.of (s _ _ eoa)) ?_ ?_
          · rintro i x H' hi ⟨ys, sG, hys, hall⟩
            obtain ⟨z, ez, hz⟩ := hoa.get' hi
            have hzp := hz.mono sG
            have ht : (reach last).take (i + 1) = (reach last).take i ++ [z] := by rw [List.take_add_one, ez]; rfl
            have hbl : ys.length < 1000 := by
              have h1 := hall.1
              have h2 := List.length_filter_le (fun z => decide (z ∈ reach p0)) ((reach last).take i)
              have h3 : ((reach last).take i).length ≤ (reach last).length := by rw [List.length_take]; exact Nat.min_le_right _ _
              have h4 := reach_len last
              omega
            refine ⟨rfl, x, rfl, .ref b, rfl, pd z, (reach p0).map pd, dp_pt hzp, .lst (SqL.of (sG _ _ (u1 _ _ hb'))) (dp_pts (hbs'.mono (u1.trans sG))), shaped_pair _ _, shaped_pts _, _, rfl, ite2 (fun h => ?_) (fun h => ?_)⟩
            · have hm := (any_pd _ _).mp h
              refine ⟨x, rfl, ys, hys, small1000 (Nat.le_of_lt hbl), ys ++ [x], same_at sG hD, upd_same, ?_⟩
              rw [ht, List.filter_append, List.filter_cons_of_pos (by simpa using hm)]
              have st : SameT H' (upd H' D (.lst (ys ++ [x]))) := SameT.lst hys
              exact (hall.monoT st).snoc (hzp.monoT st)
            · have hm : ¬ z ∈ reach p0 := fun q => h ((any_pd _ _).mpr q)
              refine ⟨ys, sG, hys, ?_⟩
              rw [ht, List.filter_append, List.filter_cons_of_neg (by simpa using hm)]
              simpa using hall
          · rintro H' ⟨ys, sG, hys, hall⟩
            rw [hoa.1, List.take_length] at hall
            obtain ⟨z, hz1, hz2⟩ := common hgl g0
            refine ⟨D, (reach last).filter fun z => decide (z ∈ reach p0), ys, _, rfl, u1.trans sG, hys, hall, fun h => ?_, Nat.le_trans (List.length_filter_le _ _) (reach_len _), fun z hz => ?_⟩
            · have : z ∈ (reach last).filter fun z => decide (z ∈ reach p0) := List.mem_filter.mpr ⟨hz1, by simpa using hz2⟩
              rw [h] at this; cases this
            · obtain ⟨h1, h2⟩ := List.mem_filter.mp hz
              exact ⟨h1, fun _ _ => by simpa using h2⟩
        · have hkm' : ¬ (k : Int) = (m : Int) + 1 := by simpa using hkm
          obtain ⟨z, hz1, _⟩ := common hgl hgl
          refine ⟨oa, reach last, xs, _, rfl, u1, eoa, hoa, fun h => (by rw [h] at hz1; cases hz1), reach_len _, fun z hz => ⟨hz, fun _ h => absurd (show (k : Int) = (m : Int) + 1 by omega) hkm'⟩⟩
      · subst eσ
        refine ⟨MidR c r g b k m last p0 true G, ?_, fun σ' G3 ⟨oa, opts, xs, y6, eσ, u3, eoa, hoa, hne, hol, hz⟩ => ?_⟩
        · refine ⟨.ref r, rfl, r, _, 3, .int u3, rfl, rfl, SqL.of (u2 _ _ hr'), atI_nat (at_ eu), rfl, _, rfl, ite2 (fun _ => ?_) (fun _ => ⟨oa, opts, xs, y6, rfl, u2, eoa, hoa, hne, hol, hz⟩)⟩
          refine ⟨.ref oa, rfl, 8, rfl, oa, xs, rfl, SqL.of eoa, fun p np => ?_⟩
          rw [cut8]
          refine ⟨p, opts.take 8, xs.take 8, y6, rfl, u2.trans (same_new np), upd_same, (hoa.take 8).mono (same_new np), fun h => ?_, by rw [List.length_take]; omega, fun z hz' => hz z (List.mem_of_mem_take hz')⟩
          cases opts with
          | nil => exact hne rfl
          | cons a as => simp at h
        · subst eσ
          obtain ⟨rk, erk, _, _⟩ := hrow.2 (k + 4) (limR[k + 4]'(by show k + 4 < 19; omega)) (by simp)
          have hxl := hoa.1
          have hpos : 0 < opts.length := by
            cases opts with
            | nil => exact absurd rfl hne
            | cons a as => simp
          have hi0 : 0 ≤ rk.fmod (xs.length : Int) := Int.fmod_nonneg_of_pos _ (by omega)
          have hi1 : rk.fmod (xs.length : Int) < (xs.length : Int) := Int.fmod_lt_of_pos _ (by omega)
          have hix : (rk.fmod (xs.length : Int)).toNat < xs.length := by omega
          have hxv : xs[(rk.fmod (xs.length : Int)).toNat]? = some (xs[(rk.fmod (xs.length : Int)).toNat]'hix) := by simp
          generalize xs[(rk.fmod (xs.length : Int)).toNat]'hix = xv at hxv
          obtain ⟨z, ez, hzp⟩ := hoa.get' hxv
          obtain ⟨hzr, hzc⟩ := hz z (List.mem_of_getElem? ez)
          refine ⟨.ref g, rfl, .inl ⟨rfl, _, SqL.of (u3 _ _ hg')⟩, .ref oa, rfl, .ref r, rfl, .int (k : Int), rfl, k, 4, rfl, rfl, r, _, (k : Int) + 4, .int rk, rfl, rfl, SqL.of (u3 _ _ hr'), at_of (j := k + 4) (by omega) (at_ erk), .inl ⟨rk, rfl, .ref oa, rfl, .ref oa, xs.length, rfl, .inl ⟨_, SqL.of eoa, rfl⟩, rk, (xs.length : Int), rfl, rfl, by omega, oa, xs, _, xv, rfl, rfl, SqL.of eoa, at_of (j := (rk.fmod (xs.length : Int)).toNat) (by omega) hxv, g, vs, xv, rfl, rfl, u3 _ _ hg', small1000 (by omega), ?_⟩⟩
          have st : SameT G3 (upd G3 g (.lst (vs ++ [xv]))) := SameT.lst (u3 _ _ hg')
          have hzG : inG z = true := reach_inG hzr
          refine ⟨_, _, _, vs ++ [xv], ring ++ [z], rfl, same_at (sm.trans u3) hgH, ?_, ?_, (hbs'.mono u3).monoT st, upd_same, ((hvs.mono u3).monoT st).snoc (hzp.monoT st), by rw [List.length_append, hlen]; rfl, ?_, ?_, ?_, ?_⟩
          · rw [upd_ne (Ne.symm hgr)]; exact u3 _ _ hr'
          · rw [upd_ne (Ne.symm hgb)]; exact u3 _ _ hb'
          · rw [List.getElem?_append_left (by omega)]; exact h0
          · intro p hp
            rcases List.mem_append.mp hp with h | h
            · exact hin p h
            · rw [List.mem_singleton.mp h]; exact hzG
          · intro j p q' h1 h2
            by_cases hj : j + 1 < ring.length
            · rw [List.getElem?_append_left (by omega)] at h1
              rw [List.getElem?_append_left hj] at h2
              exact hcon j p q' h1 h2
            · have hjl := (List.getElem?_eq_some_iff.mp h2).1
              rw [List.length_append, List.length_singleton] at hjl
              obtain rfl : j = k := by omega
              rw [List.getElem?_append_left (by omega), hlast] at h1
              rw [List.getElem?_append_right (by omega), hlen, Nat.sub_self] at h2
              cases h1; cases h2
              exact (reach_ok hzr).1
          · intro hkk z' hz'
            rw [List.getElem?_append_right (by omega), hlen, Nat.sub_self] at hz'
            cases hz'
            exact hzc rfl (by omega)
    · rintro σ G ⟨y4, y5, y6, vs, ring, rfl, sm, hr', hb', hbs', hg', hvs, hlen, h0, hin, hcon, hclose⟩
      refine ⟨.ref g, rfl, g, vs, rfl, .inl ⟨SqL.of hg', fun l nl => ?_⟩⟩
      have s' : Same G (upd G l (.tup vs)) := same_new nl
      refine q _ (.ref l) ring (sm.trans s') ⟨l, vs, rfl, upd_same, hvs.mono s', by omega, by omega⟩ ⟨by omega, by omega, hin, fun j p q' h1 h2 => ?_⟩
      have hj := (List.getElem?_eq_some_iff.mp h1).1
      by_cases hlt : j + 1 < ring.length
      · rw [Nat.mod_eq_of_lt hlt] at h2
        exact hcon j p q' h1 h2
      · have e : j + 1 = ring.length := by omega
        rw [e, Nat.mod_self, h0] at h2
        cases h2
        obtain rfl : j = m + 2 := by omega
        exact (reach_ok (hclose rfl p h1)).2
end
end K21

set_option maxRecDepth 100000
set_option maxHeartbeats 4000000
namespace K21
open PySem PySem.Spec PyProof.Rows L2
def limS : List Int := [7, 4, 6, 20, 4, 13, 13, 6, 20, 4, 13, 13, 6, 20, 4, 13, 13]
theorem rowS {rs : List Int} (h : RowOf limS rs) {k : Nat} (hk : k < 3) : ∃ i a t x y : Int, rs[5 * k + 2]? = some i ∧ rs[5 * k + 3]? = some a ∧ 0 ≤ a ∧ rs[5 * k + 4]? = some t ∧ rs[5 * k + 5]? = some x ∧ (0 ≤ x ∧ x < 13) ∧ rs[5 * k + 6]? = some y ∧ (0 ≤ y ∧ y < 13) := by
  have hk' : k = 0 ∨ k = 1 ∨ k = 2 := by omega
  have get : ∀ (j : Nat) (l : Int), limS[j]? = some l → ∃ r, rs[j]? = some r ∧ 0 ≤ r ∧ r < l := h.2
  rcases hk' with rfl | rfl | rfl
  · obtain ⟨i, e1, _, _⟩ := get 2 6 rfl; obtain ⟨a, e2, h2, _⟩ := get 3 20 rfl; obtain ⟨t, e3, _, _⟩ := get 4 4 rfl; obtain ⟨x, e4, h4⟩ := get 5 13 rfl; obtain ⟨y, e5, h5⟩ := get 6 13 rfl
    exact ⟨i, a, t, x, y, e1, e2, h2, e3, e4, h4, e5, h5⟩
  · obtain ⟨i, e1, _, _⟩ := get 7 6 rfl; obtain ⟨a, e2, h2, _⟩ := get 8 20 rfl; obtain ⟨t, e3, _, _⟩ := get 9 4 rfl; obtain ⟨x, e4, h4⟩ := get 10 13 rfl; obtain ⟨y, e5, h5⟩ := get 11 13 rfl
    exact ⟨i, a, t, x, y, e1, e2, h2, e3, e4, h4, e5, h5⟩
  · obtain ⟨i, e1, _, _⟩ := get 12 6 rfl; obtain ⟨a, e2, h2, _⟩ := get 13 20 rfl; obtain ⟨t, e3, _, _⟩ := get 14 4 rfl; obtain ⟨x, e4, h4⟩ := get 15 13 rfl; obtain ⟨y, e5, h5⟩ := get 16 13 rfl
    exact ⟨i, a, t, x, y, e1, e2, h2, e3, e4, h4, e5, h5⟩
/-- a list of three to sixteen points of the grid -/
def GL (H : Hp) (a : Addr) : Prop := ∃ xs ps, H a = some (.lst xs) ∧ AllP H xs ps ∧ 3 ≤ ps.length ∧ ps.length ≤ 16 ∧ ∀ p ∈ ps, inG p = true
theorem GL.mono {H H' : Hp} (s : Same H H') {a : Addr} (h : GL H a) : GL H' a := let ⟨xs, ps, e, h, l⟩ := h; ⟨xs, ps, s _ _ e, h.mono s, l⟩
theorem GL.off {H : Hp} {a b : Addr} {ys : List V} {o : HO} (h : GL H a) (hb : H b = some (.lst ys)) (hne : a ≠ b) : GL (upd H b o) a := let ⟨xs, ps, e, h, l⟩ := h; ⟨xs, ps, by rw [upd_ne hne]; exact e, h.monoT (SameT.lst hb), l⟩
theorem AllR.nil {H : Hp} : AllR H [] [] := ⟨rfl, fun i v r a _ => by simp at a⟩
theorem AllR.snoc {H : Hp} {xs : List V} {o : List (List Pt)} {v : V} {r : List Pt} (h : AllR H xs o) (hv : IsRg H v r) : AllR H (xs ++ [v]) (o ++ [r]) := by
  obtain ⟨hl, hi⟩ := h
  refine ⟨by simp [hl], fun i w d a b => ?_⟩
  by_cases hlt : i < xs.length
  · rw [List.getElem?_append_left hlt] at a
    rw [List.getElem?_append_left (by omega)] at b
    exact hi i w d a b
  · have hle : i < (xs ++ [v]).length := (List.getElem?_eq_some_iff.mp a).1
    simp at hle
    have e : i = xs.length := by omega
    subst e
    rw [List.getElem?_append_right (Nat.le_refl _)] at a
    rw [List.getElem?_append_right (by omega)] at b
    simp [hl] at a b; subst a b; exact hv
theorem IsRg.monoT {H H' : Hp} (s : SameT H H') {v : V} {r : List Pt} (h : IsRg H v r) : IsRg H' v r := let ⟨a, xs, e, h, hp, l⟩ := h; ⟨a, xs, e, s _ _ h, hp.monoT s, l⟩
theorem AllR.monoT {H H' : Hp} (s : SameT H H') {xs : List V} {o : List (List Pt)} (h : AllR H xs o) : AllR H' xs o := ⟨h.1, fun i v r a b => (h.2 i v r a b).monoT s⟩
theorem AllP.set {H : Hp} {xs : List V} {ps : List Pt} {v : V} {p : Pt} (h : AllP H xs ps) (hv : IsP H v p) (j : Nat) : AllP H (xs.set j v) (ps.set j p) := by
  refine ⟨by simp [h.1], fun i w q a b => ?_⟩
  rw [List.getElem?_set] at a b
  by_cases hij : j = i
  · subst hij
    rw [if_pos rfl] at a b
    by_cases hl : j < xs.length
    · rw [if_pos hl] at a; rw [if_pos (by have := h.1; omega)] at b
      cases a; cases b; exact hv
    · rw [if_neg hl] at a; cases a
  · rw [if_neg hij] at a b; exact h.2 i w q a b
theorem ixN_nat {n j : Nat} (h : j < n) : ixN n (j : Int) = some j := by
  unfold ixN; rw [if_pos (by omega), if_pos (by omega)]; simp
theorem at_prev {xs : List V} {j : Nat} (hj : j < xs.length) : ∃ (i : Nat) (v : V), xs[i]? = some v ∧ atI xs ((j : Int) - 1) = some v := by
  by_cases h0 : j = 0
  · subst h0
    have e : xs[xs.length - 1]? = some (xs[xs.length - 1]'(by omega)) := by simp
    exact ⟨_, _, e, at_neg1 e⟩
  · have e : xs[j - 1]? = some (xs[j - 1]'(by omega)) := by simp
    exact ⟨_, _, e, at_of (j := j - 1) (by omega) e⟩
def rLo (K : PySem.W.Frag) : List V → Hp → VK → Prop := fun xs H Q => ∃ p ys, xs = [.ref p] ∧ (SqL K H p ys ∨ SqT K H p ys) ∧ ∀ l, H l = none → Q (.ref l) (upd H l (.lst ys))
def rTo (K : PySem.W.Frag) : List V → Hp → VK → Prop := fun xs H Q => ∃ p ys, xs = [.ref p] ∧ ((SqL K H p ys ∧ ∀ l, H l = none → Q (.ref l) (upd H l (.tup ys))) ∨ (SqT K H p ys ∧ Q (.ref p) H))
section
variable {P : Program} {w : World} {K : PySem.W.Frag} {mg : Str → Option Value} {base : Heap}
def spSpoilt : Sp := fun vs H Q _ => ∃ (rl r : Addr) (xs : List V) (o : List (List Pt)) (rs : List Int), vs = [.ref rl, .ref r] ∧ H rl = some (.lst xs) ∧ AllR H xs o ∧ o.length ≤ 100 ∧ (∀ ring ∈ o, GoodR ring) ∧ H r = some (.lst (rs.map V.int)) ∧ RowOf limS rs ∧
  ∀ H' v o', Same H H' → IsO H' v o' → o'.length = o.length → Q v H'
theorem scSpoilt : FnScope ["_law_rings", "_law_row_here", "_law_out", "_law_ring_here", "_law_k", "_law_at", "_law_x", "_law_y", "_law_options"] ["_law_rings", "_law_row_here"] (defScope sSpoilt) := ⟨rfl, rfl, rfl, by decide +kernel, rfl, by decide +kernel, by decide +kernel⟩
def Outs (D : Addr) (H H' : Hp) (n : Nat) : Prop := ∃ outs, Same H H' ∧ H' D = some (.lst outs) ∧ outs.length = n ∧ ∀ v ∈ outs, ∃ a, v = .ref a ∧ a ≠ D ∧ H a = none ∧ GL H' a
def MidS (rl r D g : Addr) (k n : Nat) (G : Hp) : L2.St → Hp → Prop := fun σ H' => ∃ (j : Nat) (y6 y7 y8 : Option V), j < n ∧ σ = [some (.ref rl), some (.ref r), some (.ref D), some (.ref g), some (.int (k : Int)), some (.int (j : Int)), y6, y7, y8] ∧ H' = G
theorem ok_spoilt {f f_reach : Addr} {fd fd_reach : FuncData} (B : Blt mg) (F : Fun K "_law_spoilt" "_law_spoilt" sSpoilt f fd)
    (F_reach : Fun K "_law_reach" "_law_reach" sReach f_reach fd_reach) (b_reach : Binds K fd_reach ["_law_point"] []) (g_reach : mg "_law_reach" = some (.ref f_reach)) :
    FnOk P w K mg base CX0 2 f fd ["_law_rings", "_law_row_here"] spSpoilt := by
  have G_reach : FnOk P w K mg base CX0 1 f_reach fd_reach ["_law_point"] spReach := ok_reach B F_reach
  refine F.ok scSpoilt (fun vs H Q E h => ?_) (fun cdv A outer s H vs Q E hr h => ?_)
  · obtain ⟨rl, r, xs, o, rs, rfl, _⟩ := h; rfl
  · obtain ⟨rl, r, xs, o, rs, rfl, hrl, hall, hol, hgood, hrr, hrow, q⟩ := h
    refine ⟨_, (pss_cons (ps_setLc (i := 2) (own := [("_law_ring_here", 3)]) (g := gName 3) (tt := tYes) rfl scSpoilt.nd rfl rfl (sw_true rfl rfl rfl (by decide +kernel)) (pi_list (pv 0)) (blkOk_by (N := ["_law_rings", "_law_row_here", "_law_out", "_law_ring_here", "_law_k", "_law_at", "_law_x", "_law_y", "_law_options"]) (sc := defScope sSpoilt) (by decide +kernel)) (fun _ _ _ _ _ => (pg_name (i := 3) scSpoilt.nd rfl (.inl rfl))) (fun _ _ _ _ _ => pts_nil) (fun _ _ _ _ _ => (pe_callTy (show CallR _ (.type "list") (rLo K) from call_list_of) (by rfl) B.list (by decide +kernel) (pa_cons (pv 3) pa_nil))))
      (pss_cons (ps_for (PassesOwn.never) rfl (pi_range1 (by rfl) B.range (pa_cons (pe_ix ix_list (pv 1) pe_int (fun _ _ => rfl)) pa_nil)) (pg_name (i := 4) scSpoilt.nd rfl (.inl rfl))
      (pss_one (ps_if (pt_cmpR op_gt (pe_callB call_len (by rfl) B.len PySem.boot_len (pa_cons (pv 2) pa_nil)) pe_int (nomark _))
       (pss_cons (ps_set (i := 3) scSpoilt.nd rfl (.inl rfl) (pe_ix ix_list (pv 2) (pe_op op_modN (pe_callTy call_int1 (by rfl) B.int (by decide +kernel) (pa_cons (pe_ix ix_list (pv 1) (pe_op op_add (pe_op op_mul pe_int (pv 4)) pe_int) (fun _ _ => rfl)) pa_nil)) (pe_callB call_len (by rfl) B.len PySem.boot_len (pa_cons (pv 2) pa_nil))) (fun _ _ => rfl)))
        (pss_cons (ps_set (i := 5) scSpoilt.nd rfl (.inl rfl) (pe_op op_modN (pe_callTy call_int1 (by rfl) B.int (by decide +kernel) (pa_cons (pe_ix ix_list (pv 1) (pe_op op_add (pe_op op_mul pe_int (pv 4)) pe_int) (fun _ _ => rfl)) pa_nil)) (pe_callB call_len (by rfl) B.len PySem.boot_len (pa_cons (pv 3) pa_nil))))
        (Evl.pss_cut (ps_if (pt_cmpR op_ge (pe_ix ix_list (pv 1) (pe_op op_add (pe_op op_mul pe_int (pv 4)) pe_int) (fun _ _ => rfl)) pe_int (nomark _))
        (pss_one (ps_set (i := 5) scSpoilt.nd rfl (.inl rfl) (pe_op op_sub (pe_callB call_len (by rfl) B.len PySem.boot_len (pa_cons (pv 3) pa_nil)) pe_int)))
        pss_nil)
        (pss_cons (ps_par (i := 6) (j := 7) (by rfl) scSpoilt.nd rfl rfl (by decide) rfl rfl (pa_cons (pe_ix ix_list (pv 1) (pe_op op_add (pe_op op_mul pe_int (pv 4)) pe_int) (fun _ _ => rfl)) (pa_cons (pe_ix ix_list (pv 1) (pe_op op_add (pe_op op_mul pe_int (pv 4)) pe_int) (fun _ _ => rfl)) pa_nil)) (by rfl))
        (pss_one (ps_if (pt_cmpR op_eq (pe_ix ix_list (pv 1) (pe_op op_add (pe_op op_mul pe_int (pv 4)) pe_int) (fun _ _ => rfl)) pe_int (nomark _))
        (pss_one (ps_asg (pe_tup (pa_cons (pv 6) (pa_cons (pv 7) pa_nil))) (pg_sub (pv 3) (pv 5) set_list)))
        (pss_one (ps_if (pt_cmpR op_eq (pe_ix ix_list (pv 1) (pe_op op_add (pe_op op_mul pe_int (pv 4)) pe_int) (fun _ _ => rfl)) pe_int (nomark _))
         (pss_one (ps_asg (pe_ix ix_list (pv 3) (pe_op op_modN (pe_callTy call_int1 (by rfl) B.int (by decide +kernel) (pa_cons (pe_op op_add (pv 5) pe_int) pa_nil)) (pe_callB call_len (by rfl) B.len PySem.boot_len (pa_cons (pv 3) pa_nil))) (fun _ _ => rfl)) (pg_sub (pv 3) (pv 5) set_list)))
         (pss_one (ps_if (pt_cmpR op_eq (pe_ix ix_list (pv 1) (pe_op op_add (pe_op op_mul pe_int (pv 4)) pe_int) (fun _ _ => rfl)) pe_int (nomark _))
          (pss_one (ps_asg (pe_tup (pa_cons (pv 6) (pa_cons (pe_ix ix_tup (pe_ix ix_list (pv 3) (pv 5) (fun _ _ => rfl)) pe_int (fun _ _ => rfl)) pa_nil))) (pg_sub (pv 3) (pv 5) set_list)))
          (pss_cons (ps_set (i := 8) scSpoilt.nd rfl (.inl rfl) (pe_call G_reach hr (by rfl) g_reach F_reach.kp b_reach .nil pass0 (pa_cons (pe_ix ix_list (pv 3) (pe_op op_sub (pv 5) pe_int) (fun _ _ => rfl)) pa_nil)))
           (pss_one (ps_asg (pe_ix ix_list (pv 8) (pe_op op_modN (pe_callTy call_int1 (by rfl) B.int (by decide +kernel) (pa_cons (pe_op op_add (pe_op op_mul pe_int (pv 6)) (pv 7)) pa_nil)) (pe_callB call_len (by rfl) B.len PySem.boot_len (pa_cons (pv 8) pa_nil))) (fun _ _ => rfl)) (pg_sub (pv 3) (pv 5) set_list))))))))))))))
       pss_nil)))
      (pss_one (ps_ret (pe_callTy call_tuple_of (by rfl) B.tuple (by decide +kernel) (pa_cons (pe_lc (own := [("_law_ring_here", 3)]) (g := gName 3) (tt := tYes) rfl scSpoilt.nd (pi_list (pv 2)) (blkOk_by (N := ["_law_rings", "_law_row_here", "_law_out", "_law_ring_here", "_law_k", "_law_at", "_law_x", "_law_y", "_law_options"]) (sc := defScope sSpoilt) (by decide +kernel)) (fun _ _ _ _ _ => (pg_name (i := 3) scSpoilt.nd rfl (.inl rfl))) (fun _ _ _ _ _ => pts_nil) (fun _ _ _ _ _ => (pe_callTy (show CallR _ (.type "tuple") (rTo K) from call_tuple_of) (by rfl) B.tuple (by decide +kernel) (pa_cons (pv 3) pa_nil)))) pa_nil)))))), ?_⟩
    have z2 : 2 ≤ sizeLine := by decide
    have at_ : ∀ {j : Nat} {v : Int}, rs[j]? = some v → (rs.map V.int)[j]? = some (.int v) := fun e => by rw [List.getElem?_map, e]; rfl
    refine ⟨.ref rl, rfl, rl, rfl, ⟨_, SqL.of hrl⟩, fun D hD => ?_⟩
    refine lc_list (K := K) (a := rl) (xs := xs) (fun i H' => Outs D H H' i) ⟨[], same_new hD, upd_same, rfl, fun v h => by cases h⟩ (fun i H' _ ⟨_, s, _⟩ => SqL.of (s _ _ hrl)) ?_ ?_
    · rintro i x H' hi ⟨outs, sm, hd, hn, ho⟩
      obtain ⟨ring, er, b, bs, rfl, hb, hbp, _, _⟩ := hall.get' hi
      obtain ⟨g1, g2, g3, _⟩ := hgood ring (List.mem_of_getElem? er)
      have hil := (List.getElem?_eq_some_iff.mp hi).1
      have hxo := hall.1
      refine ⟨rfl, .ref b, rfl, b, bs, rfl, .inr (SqT.of (sm _ _ hb)), fun l nl => ?_⟩
      have s1 : Same H' (upd H' l (.lst bs)) := same_new nl
      have el : (upd H' l (.lst bs)) l = some (.lst bs) := upd_same
      generalize upd H' l (.lst bs) = H1 at s1 el ⊢
      have hlD : l ≠ D := fun z => by rw [z, hd] at nl; cases nl
      have hlH : H l = none := by
        cases e : H l with
        | none => rfl
        | some o => rw [sm _ _ e] at nl; cases nl
      refine ⟨outs, s1 _ _ hd, small1000 (by omega), outs ++ [.ref l], same_at (sm.trans s1) hD, upd_same, by rw [List.length_append, hn]; rfl, fun v hv => ?_⟩
      rcases List.mem_append.mp hv with h | h
      · obtain ⟨a, rfl, a1, a2, a3⟩ := ho v h
        exact ⟨a, rfl, a1, a2, (a3.mono s1).off (s1 _ _ hd) a1⟩
      · rw [List.mem_singleton.mp h]
        exact ⟨l, rfl, hlD, hlH, GL.off ⟨bs, ring, el, (hbp.mono (sm.trans s1)), g1, g2, g3⟩ (s1 _ _ hd) hlD⟩
    · intro H0 hO
      obtain ⟨outs0, sm0, hd0, hn0, ho0⟩ := hO
      obtain ⟨n1, en1, hn10, hn11⟩ := hrow.2 1 4 rfl
      refine ⟨.ref r, rfl, r, _, 1, .int n1, rfl, rfl, SqL.of (sm0 _ _ hrr), atI_nat (at_ en1), n1, rfl, by omega, by omega, ?_⟩
      refine for_range (lo := 0) (n := n1.toNat) (fun k σ H' => ∃ y3 y4 y5 y6 y7 y8, σ = [some (.ref rl), some (.ref r), some (.ref D), y3, y4, y5, y6, y7, y8] ∧ Outs D H H' xs.length) ⟨none, none, none, none, none, none, rfl, outs0, sm0, hd0, hn0, ho0⟩ ?_ ?_
      · rintro k σ G hk ⟨y3, y4, y5, y6, y7, y8, rfl, outs, sm, hd, hn, ho⟩
        have e0 : (0 : Int) + (k : Int) = (k : Int) := by omega
        rw [e0]
        have hk3 : k < 3 := by omega
        obtain ⟨i, a, t, x, y, ei, ea, ha0, et, ex, hx, ey, hy⟩ := rowS hrow hk3
        have HR : G r = some (.lst (rs.map V.int)) := sm _ _ hrr
        refine ⟨.ref D, rfl, .ref D, outs.length, rfl, .inl ⟨_, SqL.of hd, rfl⟩, (outs.length : Int), 0, rfl, rfl, _, rfl, ite2 (fun hpos => ?_) (fun _ => ⟨_, _, _, _, _, _, rfl, outs, sm, hd, hn, ho⟩)⟩
        have hpos' : (0 : Int) < (outs.length : Int) := by simpa using hpos
        have hi0 : 0 ≤ i.fmod (outs.length : Int) := Int.fmod_nonneg_of_pos _ hpos'
        have hi1 : i.fmod (outs.length : Int) < (outs.length : Int) := Int.fmod_lt_of_pos _ hpos'
        have hix : outs[(i.fmod (outs.length : Int)).toNat]? = some (outs[(i.fmod (outs.length : Int)).toNat]'(by omega)) := by simp
        generalize outs[(i.fmod (outs.length : Int)).toNat]'(by omega) = gv at hix
        obtain ⟨g, rfl, hgD, hgH, vs, ps, hg, hvs, hp3, hp16, hin⟩ := ho gv (List.mem_of_getElem? hix)
        have hvl := hvs.1
        refine ⟨.ref D, rfl, .ref r, rfl, .int (k : Int), rfl, 5, (k : Int), rfl, rfl, .inl ⟨by decide, by decide⟩, 5 * (k : Int), 2, rfl, rfl, r, _, 5 * (k : Int) + 2, .int i, rfl, rfl, SqL.of HR, at_of (j := 5 * k + 2) (by omega) (at_ ei), .inl ⟨i, rfl, .ref D, rfl, .ref D, outs.length, rfl, .inl ⟨_, SqL.of hd, rfl⟩, i, (outs.length : Int), rfl, rfl, by omega, D, outs, _, .ref g, rfl, rfl, SqL.of hd, at_of (j := (i.fmod (outs.length : Int)).toNat) (by omega) hix, ?_⟩⟩
        have ha1 : 0 ≤ a.fmod (vs.length : Int) := Int.fmod_nonneg_of_pos _ (by omega)
        have ha2 : a.fmod (vs.length : Int) < (vs.length : Int) := Int.fmod_lt_of_pos _ (by omega)
        refine ⟨.ref r, rfl, .int (k : Int), rfl, 5, (k : Int), rfl, rfl, .inl ⟨by decide, by decide⟩, 5 * (k : Int), 3, rfl, rfl, r, _, 5 * (k : Int) + 3, .int a, rfl, rfl, SqL.of HR, at_of (j := 5 * k + 3) (by omega) (at_ ea), .inl ⟨a, rfl, .ref g, rfl, .ref g, vs.length, rfl, .inl ⟨_, SqL.of hg, rfl⟩, a, (vs.length : Int), rfl, rfl, by omega, ?_⟩⟩
        refine ⟨MidS rl r D g k vs.length G, ?_, fun σ' G' ⟨j, z6, z7, z8, hj, eσ, eG⟩ => ?_⟩
        · refine ⟨.ref r, rfl, .int (k : Int), rfl, 5, (k : Int), rfl, rfl, .inl ⟨by decide, by decide⟩, 5 * (k : Int), 3, rfl, rfl, r, _, 5 * (k : Int) + 3, .int a, rfl, rfl, SqL.of HR, at_of (j := 5 * k + 3) (by omega) (at_ ea), a, 16, rfl, rfl, _, rfl, ite2 (fun _ => ?_) (fun _ => ?_)⟩
          · exact ⟨.ref g, rfl, .ref g, vs.length, rfl, .inl ⟨_, SqL.of hg, rfl⟩, (vs.length : Int), 1, rfl, rfl, vs.length - 1, y6, y7, y8, by omega, by rw [show (((vs.length - 1 : Nat)) : Int) = (vs.length : Int) - 1 by omega]; rfl, rfl⟩
          · exact ⟨(a.fmod (vs.length : Int)).toNat, y6, y7, y8, by omega, by rw [show (((a.fmod (vs.length : Int)).toNat : Nat) : Int) = a.fmod (vs.length : Int) by omega]; rfl, rfl⟩
        · subst eσ; subst eG
          have done : ∀ (G2 : Hp) (v : V) (z : Pt) (w8 : Option V), Same G' G2 → IsP G2 v z → inG z = true → ∃ y3 y4 y5 y6 y7 y8, ([some (.ref rl), some (.ref r), some (.ref D), some (.ref g), some (.int (k : Int)), some (.int (j : Int)), some (.int x), some (.int y), w8] : L2.St) = [some (.ref rl), some (.ref r), some (.ref D), y3, y4, y5, y6, y7, y8] ∧ Outs D H (upd G2 g (.lst (vs.set j v))) xs.length := fun G2 v z w8 s2 hv hz => by
            have hg2 := s2 _ _ hg
            have st : SameT G2 (upd G2 g (.lst (vs.set j v))) := SameT.lst hg2
            refine ⟨_, _, _, _, _, _, rfl, outs, same_at (sm.trans s2) hgH, by rw [upd_ne (Ne.symm hgD)]; exact s2 _ _ hd, hn, fun u hu => ?_⟩
            obtain ⟨b, rfl, b1, b2, b3⟩ := ho u hu
            refine ⟨b, rfl, b1, b2, ?_⟩
            by_cases hbg : b = g
            · subst hbg
              refine ⟨vs.set j v, ps.set j z, upd_same, ((hvs.mono s2).monoT st).set (hv.monoT st) j, by simpa using hp3, by simpa using hp16, fun p hp => ?_⟩
              rcases List.mem_or_eq_of_mem_set hp with h | h
              · exact hin p h
              · rw [h]; exact hz
            · exact (b3.mono s2).off hg2 hbg
          have hgxy : ∀ {u v : Int}, (0 ≤ u ∧ u < 13) → (0 ≤ v ∧ v < 13) → inG (u, v) = true := fun h1 h2 => inG_iff.mpr ⟨⟨h1.1, by show _ ≤ (12 : Int); omega⟩, h2.1, by show _ ≤ (12 : Int); omega⟩
          have evj : vs[j]? = some (vs[j]'hj) := by simp
          generalize vs[j]'hj = vj at evj
          obtain ⟨pj, epj, hpj⟩ := hvs.get' evj
          have hgj := hin _ (List.mem_of_getElem? epj)
          refine ⟨.ref r, rfl, .int (k : Int), rfl, 5, (k : Int), rfl, rfl, .inl ⟨by decide, by decide⟩, 5 * (k : Int), 5, rfl, rfl, r, _, 5 * (k : Int) + 5, .int x, rfl, rfl, SqL.of (sm _ _ hrr), at_of (j := 5 * k + 5) (by omega) (at_ ex), .ref r, rfl, .int (k : Int), rfl, 5, (k : Int), rfl, rfl, .inl ⟨by decide, by decide⟩, 5 * (k : Int), 6, rfl, rfl, r, _, 5 * (k : Int) + 6, .int y, rfl, rfl, SqL.of (sm _ _ hrr), at_of (j := 5 * k + 6) (by omega) (at_ ey), _, _, rfl, ?_⟩
          refine ⟨.ref r, rfl, .int (k : Int), rfl, 5, (k : Int), rfl, rfl, .inl ⟨by decide, by decide⟩, 5 * (k : Int), 4, rfl, rfl, r, _, 5 * (k : Int) + 4, .int t, rfl, rfl, SqL.of (sm _ _ hrr), at_of (j := 5 * k + 4) (by omega) (at_ et), rfl, _, rfl, ite2 (fun _ => ?_) (fun _ => ⟨.ref r, rfl, .int (k : Int), rfl, 5, (k : Int), rfl, rfl, .inl ⟨by decide, by decide⟩, 5 * (k : Int), 4, rfl, rfl, r, _, 5 * (k : Int) + 4, .int t, rfl, rfl, SqL.of (sm _ _ hrr), at_of (j := 5 * k + 4) (by omega) (at_ et), rfl, _, rfl, ite2 (fun _ => ?_) (fun _ => ⟨.ref r, rfl, .int (k : Int), rfl, 5, (k : Int), rfl, rfl, .inl ⟨by decide, by decide⟩, 5 * (k : Int), 4, rfl, rfl, r, _, 5 * (k : Int) + 4, .int t, rfl, rfl, SqL.of (sm _ _ hrr), at_of (j := 5 * k + 4) (by omega) (at_ et), rfl, _, rfl, ite2 (fun _ => ?_) (fun _ => ?_)⟩)⟩)⟩
          · refine ⟨.int x, rfl, .int y, rfl, z2, fun t nt => ⟨.ref g, rfl, .int (j : Int), rfl, g, vs, (j : Int), j, rfl, rfl, same_new nt _ _ hg, ixN_nat hj, ?_⟩⟩
            exact done _ (.ref t) (x, y) _ (same_new nt) ⟨t, rfl, upd_same⟩ (hgxy hx hy)
          · have hm0 : 0 ≤ ((j : Int) + 1).fmod (vs.length : Int) := Int.fmod_nonneg_of_pos _ (by omega)
            have hm1 : ((j : Int) + 1).fmod (vs.length : Int) < (vs.length : Int) := Int.fmod_lt_of_pos _ (by omega)
            have hmv : vs[(((j : Int) + 1).fmod (vs.length : Int)).toNat]? = some (vs[(((j : Int) + 1).fmod (vs.length : Int)).toNat]'(by omega)) := by simp
            generalize vs[(((j : Int) + 1).fmod (vs.length : Int)).toNat]'(by omega) = vn at hmv
            obtain ⟨pn, epn, hpn⟩ := hvs.get' hmv
            refine ⟨.ref g, rfl, .int (j : Int), rfl, (j : Int), 1, rfl, rfl, .inl ⟨_, rfl, .ref g, rfl, .ref g, vs.length, rfl, .inl ⟨_, SqL.of hg, rfl⟩, (j : Int) + 1, (vs.length : Int), rfl, rfl, by omega, g, vs, _, vn, rfl, rfl, SqL.of hg, at_of (j := (((j : Int) + 1).fmod (vs.length : Int)).toNat) (by omega) hmv, .ref g, rfl, .int (j : Int), rfl, g, vs, (j : Int), j, rfl, rfl, hg, ixN_nat hj, ?_⟩⟩
            exact done _ vn pn _ (Same.refl _) hpn (hin _ (List.mem_of_getElem? epn))
          · obtain ⟨b, rfl, hb⟩ := id hpj
            refine ⟨.int x, rfl, .ref g, rfl, .int (j : Int), rfl, g, vs, (j : Int), .ref b, rfl, rfl, SqL.of hg, atI_nat evj, b, _, 1, .int pj.2, rfl, rfl, SqT.of hb, atI_nat (j := 1) rfl, z2, fun t nt => ⟨.ref g, rfl, .int (j : Int), rfl, g, vs, (j : Int), j, rfl, rfl, same_new nt _ _ hg, ixN_nat hj, ?_⟩⟩
            have h2 := (inG_iff.mp hgj).2
            exact done _ (.ref t) (x, pj.2) _ (same_new nt) ⟨t, rfl, upd_same⟩ (hgxy hx ⟨h2.1, by omega⟩)
          · obtain ⟨j', v', ev', hat'⟩ := at_prev (xs := vs) hj
            obtain ⟨p', ep', hp'⟩ := hvs.get' ev'
            have hg' := hin _ (List.mem_of_getElem? ep')
            refine ⟨.ref g, rfl, .int (j : Int), rfl, (j : Int), 1, rfl, rfl, g, vs, (j : Int) - 1, v', rfl, rfl, SqL.of hg, hat', v', p', rfl, hp', fun G2 oa os s2 noa eoa hoa => ?_⟩
            obtain ⟨zz, hzz, _⟩ := common hg' hg'
            have hosl := hoa.1
            have hlpos : 0 < (reach p').length := List.length_pos_of_mem hzz
            have hm0 : 0 ≤ (13 * x + y).fmod (os.length : Int) := Int.fmod_nonneg_of_pos _ (by omega)
            have hm1 : (13 * x + y).fmod (os.length : Int) < (os.length : Int) := Int.fmod_lt_of_pos _ (by omega)
            have hmv : os[((13 * x + y).fmod (os.length : Int)).toNat]? = some (os[((13 * x + y).fmod (os.length : Int)).toNat]'(by omega)) := by simp
            generalize os[((13 * x + y).fmod (os.length : Int)).toNat]'(by omega) = vn at hmv
            obtain ⟨pn, epn, hpn⟩ := hoa.get' hmv
            refine ⟨.ref oa, rfl, .int x, rfl, 13, x, rfl, rfl, .inl ⟨by decide, by decide⟩, .int y, rfl, 13 * x, y, rfl, rfl, .inl ⟨_, rfl, .ref oa, rfl, .ref oa, os.length, rfl, .inl ⟨_, SqL.of eoa, rfl⟩, 13 * x + y, (os.length : Int), rfl, rfl, by omega, oa, os, _, vn, rfl, rfl, SqL.of eoa, at_of (j := ((13 * x + y).fmod (os.length : Int)).toNat) (by omega) hmv, .ref g, rfl, .int (j : Int), rfl, g, vs, (j : Int), j, rfl, rfl, s2 _ _ hg, ixN_nat hj, ?_⟩⟩
            exact done _ vn pn _ s2 hpn (reach_inG (List.mem_of_getElem? epn))
      · rintro σ G ⟨y3, y4, y5, y6, y7, y8, rfl, outs, sm, hd, hn, ho⟩
        refine ⟨.ref D, rfl, D, rfl, ⟨_, SqL.of hd⟩, fun E0 hE0 => ?_⟩
        refine lc_list (K := K) (a := D) (xs := outs) (fun i H' => ∃ ts o', Same G H' ∧ H' E0 = some (.lst ts) ∧ AllR H' ts o' ∧ o'.length = i) ⟨[], [], same_new hE0, upd_same, AllR.nil, rfl⟩ (fun i H' _ ⟨_, _, s, _⟩ => SqL.of (s _ _ hd)) ?_ ?_
        · rintro i u H' hi ⟨ts, o', sG, hts, hall', hlen⟩
          obtain ⟨b, rfl, b1, b2, bs, ps, hb, hbp, hb3, hb16, hbin⟩ := ho u (List.mem_of_getElem? hi)
          have hil := (List.getElem?_eq_some_iff.mp hi).1
          have hxo := hall.1
          have hto := hall'.1
          refine ⟨rfl, .ref b, rfl, b, bs, rfl, .inl ⟨SqL.of (sG _ _ hb), fun l nl => ?_⟩⟩
          have s1 : Same H' (upd H' l (.tup bs)) := same_new nl
          have el : (upd H' l (.tup bs)) l = some (.tup bs) := upd_same
          generalize upd H' l (.tup bs) = H1 at s1 el ⊢
          have st : SameT H1 (upd H1 E0 (.lst (ts ++ [.ref l]))) := SameT.lst (s1 _ _ hts)
          refine ⟨ts, s1 _ _ hts, small1000 (by omega), ts ++ [.ref l], o' ++ [ps], same_at (sG.trans s1) hE0, upd_same, ?_, by rw [List.length_append, hlen]; rfl⟩
          exact ((hall'.mono s1).monoT st).snoc ⟨l, bs, rfl, st _ _ el, (hbp.mono (sG.trans s1)).monoT st, by omega, by omega⟩
        · rintro H' ⟨ts, o', sG, hts, hall', hlen⟩
          refine ⟨E0, ts, rfl, .inl ⟨SqL.of hts, fun l nl => ?_⟩⟩
          have s1 : Same H' (upd H' l (.tup ts)) := same_new nl
          have hxo := hall.1
          exact q _ (.ref l) o' (sm.trans (sG.trans s1)) ⟨l, ts, rfl, upd_same, hall'.mono s1, by omega⟩ (by omega)
end
end K21

set_option maxRecDepth 100000
set_option maxHeartbeats 4000000
namespace K21
open PySem PySem.Spec PyProof.Rows L2
def resOk : PyData := .tuple [.str (Str.ofString "allowed")]
def resBad (r j : Nat) : PyData := .tuple [.str (Str.ofString "bad"), .int (r : Nat), .int (j : Nat)]
theorem is_ok {H : Hp} {a : Addr} (h : H a = some (.tup [.str (Str.ofString "allowed")])) : Is H (.ref a) resOk := by
  refine .tup h rfl fun i v d h1 h2 => ?_
  match i with
  | 0 => simp at h1 h2; subst h1 h2; exact .str _
  | i + 1 => simp at h1
theorem is_bad {H : Hp} {a : Addr} {r j : Nat} (h : H a = some (.tup [.str (Str.ofString "bad"), .int (r : Nat), .int (j : Nat)])) : Is H (.ref a) (resBad r j) := by
  refine .tup h rfl fun i v d h1 h2 => ?_
  match i with
  | 0 => simp at h1 h2; subst h1 h2; exact .str _
  | 1 => simp at h1 h2; subst h1 h2; exact .int _
  | 2 => simp at h1 h2; subst h1 h2; exact .int _
  | i + 3 => simp at h1
theorem bad_ok {o : List (List Pt)} {r j : Nat} (h : BadAt o r j) (g : OkAt o r j) : False := by
  obtain ⟨ring, p, q, e1, e2, e3, e4⟩ := h
  rw [g ring p q e1 e2 e3] at e4; cases e4
theorem first_one {o : List (List Pt)} {r j r' j' : Nat} (h : FirstBad o r j) (g : FirstBad o r' j') : r = r' ∧ j = j' := by
  have hr : r = r' := by
    rcases Nat.lt_trichotomy r r' with l | l | l
    · exact (bad_ok h.1 (g.2.2 r l j)).elim
    · exact l
    · exact (bad_ok g.1 (h.2.2 r' l j')).elim
  subst hr
  rcases Nat.lt_trichotomy j j' with l | l | l
  · exact (bad_ok h.1 (g.2.1 j l)).elim
  · exact ⟨rfl, l⟩
  · exact (bad_ok g.1 (h.2.1 j' l)).elim
/-- what is answered of an outline -/
def spAns : Sp := fun vs H Q _ => ∃ (v : V) (o : List (List Pt)), vs = [v] ∧ IsO H v o ∧ (AllOk o → ∀ H' x, Same H H' → Is H' x resOk → Q x H') ∧ (∀ r j, FirstBad o r j → ∀ H' x, Same H H' → Is H' x (resBad r j) → Q x H')
section
variable {P : Program} {w : World} {K : PySem.W.Frag} {mg : Str → Option Value} {base : Heap}
/-! ### _law_first_bad -/
theorem scFirst : FnScope ["_law_outline", "_law_r", "_law_ring_here", "_law_p", "_law_x", "_law_y", "_law_u", "_law_v", "_law_right", "_law_down"] ["_law_outline"] (defScope sFirst) := ⟨rfl, rfl, rfl, by decide +kernel, rfl, by decide +kernel, by decide +kernel⟩
theorem ok_first {f : Addr} {fd : FuncData} (B : Blt mg) (F : Fun K "_law_first_bad" "_law_first_bad" sFirst f fd) : FnOk P w K mg base CX0 1 f fd ["_law_outline"] spAns := by
  refine F.ok scFirst (fun vs H Q E h => ?_) (fun cdv A outer s H vs Q E hr h => ?_)
  · obtain ⟨v, o, rfl, _⟩ := h; rfl
  · obtain ⟨v, o, rfl, ⟨a, xs, rfl, ha, hall, hz⟩, q, e⟩ := h
    refine ⟨_, (pss_cons (ps_for (PassesOwn.never) rfl (pi_range1 (by rfl) B.range (pa_cons (pe_callB call_len (by rfl) B.len PySem.boot_len (pa_cons (pv 0) pa_nil)) pa_nil)) (pg_name (i := 1) scFirst.nd rfl (.inl rfl))
      (pss_cons (ps_set (i := 2) scFirst.nd rfl (.inl rfl) (pe_ix ix_tup (pv 0) (pv 1) (fun _ _ => rfl)))
       (pss_one (ps_for (PassesOwn.never) rfl (pi_range1 (by rfl) B.range (pa_cons (pe_callB call_len (by rfl) B.len PySem.boot_len (pa_cons (pv 2) pa_nil)) pa_nil)) (pg_name (i := 3) scFirst.nd rfl (.inl rfl))
       (pss_cons (ps_asg (pe_ix ix_tup (pv 2) (pv 3) (fun _ _ => rfl)) (pg_tup rfl (pgs_cons (pg_name (i := 4) scFirst.nd rfl (.inl rfl)) (pgs_cons (pg_name (i := 5) scFirst.nd rfl (.inl rfl)) pgs_nil))))
        (pss_cons (ps_asg (pe_ix ix_tup (pv 2) (pe_op op_modN (pe_callTy call_int1 (by rfl) B.int (by decide +kernel) (pa_cons (pe_op op_add (pv 3) pe_int) pa_nil)) (pe_callB call_len (by rfl) B.len PySem.boot_len (pa_cons (pv 2) pa_nil))) (fun _ _ => rfl)) (pg_tup rfl (pgs_cons (pg_name (i := 6) scFirst.nd rfl (.inl rfl)) (pgs_cons (pg_name (i := 7) scFirst.nd rfl (.inl rfl)) pgs_nil))))
        (pss_cons (ps_par (i := 8) (j := 9) (by rfl) scFirst.nd rfl rfl (by decide) rfl rfl (pa_cons (pe_callB call_abs (by rfl) B.abs (by decide +kernel) (pa_cons (pe_op op_sub (pv 6) (pv 4)) pa_nil)) (pa_cons (pe_callB call_abs (by rfl) B.abs (by decide +kernel) (pa_cons (pe_op op_sub (pv 7) (pv 5)) pa_nil)) pa_nil)) (by rfl))
        (pss_one (ps_if (PW.pt (pw_or (PW.pt (pw_and (pt_cmpR op_eq (pv 8) pe_int (nomark _)) (pw_and1 (pt_cmpR op_eq (pv 9) pe_int (nomark _))))) (pw_or1 (PW.pt (pw_and (pt_cmpR op_ne (pv 8) pe_int (nomark _)) (pw_and (pt_cmpR op_ne (pv 9) pe_int (nomark _)) (pw_and1 (pt_cmpR op_ne (pv 8) (pv 9) (nomark _)))))))))
        (pss_one (ps_ret (pe_tup (pa_cons pe_str (pa_cons (pv 1) (pa_cons (pv 3) pa_nil))))))
        pss_nil)))))))))
      (pss_one (ps_ret (pe_tup (pa_cons pe_str pa_nil))))), ?_⟩
    have hxo := hall.1
    have z1 : 1 ≤ sizeLine := by decide
    have z3 : 3 ≤ sizeLine := by decide
    refine ⟨.ref a, rfl, .ref a, xs.length, rfl, .inr ⟨_, SqT.of ha, rfl⟩, (xs.length : Int), rfl, by omega, by omega, ?_⟩
    rw [Int.toNat_natCast]
    refine for_range (lo := 0) (n := xs.length) (fun i σ H' => ∃ y1 y2 y3 y4 y5 y6 y7 y8 y9, σ = [some (.ref a), y1, y2, y3, y4, y5, y6, y7, y8, y9] ∧ H' = H ∧ ∀ r, r < i → ∀ j, OkAt o r j) ⟨none, none, none, none, none, none, none, none, none, rfl, rfl, fun r h => absurd h (Nat.not_lt_zero r)⟩ ?_ ?_
    · rintro i σ H' hi ⟨y1, y2, y3, y4, y5, y6, y7, y8, y9, rfl, rfl, hok⟩
      have e0 : (0 : Int) + (i : Int) = (i : Int) := by omega
      rw [e0]
      have exi : xs[i]? = some (xs[i]'hi) := by simp
      generalize xs[i]'hi = xv at exi
      obtain ⟨ring, er, b, ps, rfl, hb, hps, hl2, hl3⟩ := hall.get' exi
      have hpl := hps.1
      refine ⟨.ref a, rfl, .int (i : Int), rfl, a, xs, (i : Int), .ref b, rfl, rfl, SqT.of ha, atI_nat exi, ?_⟩
      refine ⟨.ref b, rfl, .ref b, ps.length, rfl, .inr ⟨_, SqT.of hb, rfl⟩, (ps.length : Int), rfl, by omega, by omega, ?_⟩
      rw [Int.toNat_natCast]
      refine for_range (lo := 0) (n := ps.length) (fun j σ H'' => ∃ y3 y4 y5 y6 y7 y8 y9, σ = [some (.ref a), some (.int (i : Int)), some (.ref b), y3, y4, y5, y6, y7, y8, y9] ∧ H'' = H' ∧ ∀ j', j' < j → OkAt o i j') ⟨y3, y4, y5, y6, y7, y8, y9, rfl, rfl, fun r h => absurd h (Nat.not_lt_zero r)⟩ ?_ ?_
      · rintro j σ H'' hj ⟨y3, y4, y5, y6, y7, y8, y9, rfl, rfl, hok2⟩
        have e0 : (0 : Int) + (j : Int) = (j : Int) := by omega
        rw [e0]
        have epj : ps[j]? = some (ps[j]'hj) := by simp
        generalize ps[j]'hj = u at epj
        obtain ⟨p, ep, c, rfl, hc⟩ := hps.get' epj
        have hm0 : 0 ≤ ((j : Int) + 1).fmod (ps.length : Int) := Int.fmod_nonneg_of_pos _ (by omega)
        have hm1 : ((j : Int) + 1).fmod (ps.length : Int) < (ps.length : Int) := Int.fmod_lt_of_pos _ (by omega)
        have hmn : (((j : Int) + 1).fmod (ps.length : Int)).toNat = (j + 1) % ps.length := by
          rw [show ((j : Int) + 1) = ((j + 1 : Nat) : Int) by omega, Int.fmod_eq_emod_of_nonneg _ (by omega)]; rfl
        have hmv : ps[(((j : Int) + 1).fmod (ps.length : Int)).toNat]? = some (ps[(((j : Int) + 1).fmod (ps.length : Int)).toNat]'(by omega)) := by simp
        generalize ps[(((j : Int) + 1).fmod (ps.length : Int)).toNat]'(by omega) = vn at hmv
        obtain ⟨p2, ep2, c2, rfl, hc2⟩ := hps.get' hmv
        rw [hmn, hpl] at ep2
        refine ⟨.ref b, rfl, .int (j : Int), rfl, b, ps, (j : Int), .ref c, rfl, rfl, SqT.of hb, atI_nat epj, c, _, rfl, SqT.of hc, rfl, _, _, rfl, _, _, rfl, rfl, ?_⟩
        refine ⟨.ref b, rfl, .int (j : Int), rfl, (j : Int), 1, rfl, rfl, .inl ⟨_, rfl, .ref b, rfl, .ref b, ps.length, rfl, .inr ⟨_, SqT.of hb, rfl⟩, (j : Int) + 1, (ps.length : Int), rfl, rfl, by omega, b, ps, _, .ref c2, rfl, rfl, SqT.of hb, at_of (j := (((j : Int) + 1).fmod (ps.length : Int)).toNat) (by omega) hmv, c2, _, rfl, SqT.of hc2, rfl, _, _, rfl, _, _, rfl, rfl, ?_⟩⟩
        refine ⟨.int p2.1, rfl, .int p.1, rfl, p2.1, p.1, rfl, rfl, _, rfl, .int p2.2, rfl, .int p.2, rfl, p2.2, p.2, rfl, rfl, _, rfl, _, _, rfl, ?_⟩
        have bad : okE p p2 = false → FirstBad o i j := fun hf => ⟨⟨ring, p, p2, er, ep, ep2, hf⟩, hok2, hok⟩
        have good : okE p p2 = true → ∀ j', j' < j + 1 → OkAt o i j' := fun ht j' hj' => by
          by_cases hlt : j' < j
          · exact hok2 j' hlt
          · obtain rfl : j' = j := by omega
            intro rg u v h1 h2 h3
            rw [er] at h1; cases h1
            rw [ep] at h2; cases h2
            rw [ep2] at h3; cases h3
            exact ht
        have hR : okE p p2 = (!(decide (ab (p2.1 - p.1) = 0) && decide (ab (p2.2 - p.2) = 0)) && (decide (ab (p2.1 - p.1) = 0) || (decide (ab (p2.2 - p.2) = 0) || decide (ab (p2.1 - p.1) = ab (p2.2 - p.2))))) := rfl
        generalize hRr : ab (p2.1 - p.1) = R at hR
        generalize hDd : ab (p2.2 - p.2) = D at hR
        have vR : (if p2.1 - p.1 < 0 then -(p2.1 - p.1) else p2.1 - p.1) = R := hRr
        have vD : (if p2.2 - p.2 < 0 then -(p2.2 - p.2) else p2.2 - p.2) = D := hDd
        rw [vR, vD]
        refine ⟨.int R, rfl, rfl, _, rfl, ite2 (fun h1 => ⟨.int D, rfl, rfl, _, rfl, ite2 (fun h2 => iteT ?_) (fun h2 => ?_)⟩) (fun h1 => iteF ?_)⟩
        · have f1 : R = 0 := by simpa using h1
          have f2 : D = 0 := by simpa using h2
          have hf : okE p p2 = false := by rw [hR, f1, f2]; rfl
          exact ⟨.int (i : Int), rfl, .int (j : Int), rfl, z3, fun t nt => e i j (bad hf) _ _ (same_new nt) (is_bad upd_same)⟩
        · have f1 : R = 0 := by simpa using h1
          have f2 : ¬ D = 0 := by simpa using h2
          have ht : okE p p2 = true := by rw [hR, f1]; simp [f2]
          refine ⟨.int R, rfl, rfl, _, rfl, ite2 (fun h3 => absurd f1 (by simpa using h3)) (fun h3 => iteF ⟨_, _, _, _, _, _, _, rfl, rfl, good ht⟩)⟩
        · have f1 : ¬ R = 0 := by simpa using h1
          refine ⟨.int R, rfl, rfl, _, rfl, ite2 (fun h3 => ⟨.int D, rfl, rfl, _, rfl, ite2 (fun h4 => ⟨.int R, rfl, .int D, rfl, rfl, _, rfl, ite2 (fun h5 => ?_) (fun h5 => ?_)⟩) (fun h4 => iteF ?_)⟩) (fun h3 => absurd (show R = 0 by simpa using h3) f1)⟩
          · have f4 : ¬ D = 0 := by simpa using h4
            have f5 : ¬ R = D := by simpa using h5
            have hf : okE p p2 = false := by rw [hR]; simp [f1, f4, f5]
            exact ⟨.int (i : Int), rfl, .int (j : Int), rfl, z3, fun t nt => e i j (bad hf) _ _ (same_new nt) (is_bad upd_same)⟩
          · have f5 : R = D := by simpa using h5
            have ht : okE p p2 = true := by rw [hR, ← f5]; simp [f1]
            exact ⟨_, _, _, _, _, _, _, rfl, rfl, good ht⟩
          · have f4 : D = 0 := by simpa using h4
            have ht : okE p p2 = true := by rw [hR, f4]; simp [f1]
            exact ⟨_, _, _, _, _, _, _, rfl, rfl, good ht⟩
      · rintro σ H'' ⟨y3, y4, y5, y6, y7, y8, y9, rfl, rfl, hok2⟩
        refine ⟨_, _, _, _, _, _, _, _, _, rfl, rfl, fun r hr' j => ?_⟩
        by_cases hlt : r < i
        · exact hok r hlt j
        · obtain rfl : r = i := by omega
          by_cases hj : j < ps.length
          · exact hok2 j hj
          · intro rg u v h1 h2 h3
            rw [er] at h1; cases h1
            have := (List.getElem?_eq_some_iff.mp h2).1
            omega
    · rintro σ H' ⟨y1, y2, y3, y4, y5, y6, y7, y8, y9, rfl, rfl, hok⟩
      refine ⟨z1, fun t nt => q (fun r j => ?_) _ _ (same_new nt) (is_ok upd_same)⟩
      by_cases hlt : r < xs.length
      · exact hok r hlt j
      · intro rg u v h1 h2 h3
        have := (List.getElem?_eq_some_iff.mp h1).1
        omega
end
end K21

set_option maxRecDepth 100000
set_option maxHeartbeats 4000000
namespace K21
open PySem PySem.Spec PyProof.Rows L2
/-- what the errors' classes must say -/
structure Errs (K : PySem.W.Frag) (mg : Str → Option Value) (C CL C1 C2 : Addr) : Prop where
  gL : mg "LaidError" = some (.ref CL)
  g1 : mg "BadFace" = some (.ref C1)
  g2 : mg "BadLine" = some (.ref C2)
  ex : ExcC K C
  exm : PySem.W.exmOne K (.ref C) (.ref C) = some true
  k1 : PySem.W.kitOne K (.ref C) (.ref CL) = some true
  k2 : PySem.W.kitOne K (.ref C) (.type "ValueError") = some true
  k3 : PySem.W.kitOne K (.ref C) (.ref C1) = some false
  k4 : PySem.W.kitOne K (.ref C) (.ref C2) = some false
section
variable {P : Program} {w : World} {K : PySem.W.Frag} {mg : Str → Option Value} {base : Heap}
theorem scTold : FnScope ["_law_outline", "_law_answer", "e"] ["_law_outline"] (defScope sTold) := ⟨rfl, rfl, rfl, by decide +kernel, rfl, by decide +kernel, by decide +kernel⟩
theorem ok_told {f f_check C CL C1 C2 fI : Addr} {fd fd_check fdI : FuncData} (B : Blt mg) (N : BadO K mg C fI fdI) (R : Errs K mg C CL C1 C2) (F : Fun K "_law_told" "_law_told" sTold f fd)
    (G_check : FnOk P w K mg base (L2.CX P w) 3 f_check fd_check ["outline"] (spCheck C)) (F_check : Fun K "check_outline" "check_outline" sCheck f_check fd_check) (b_check : Binds K fd_check ["outline"] []) (g_check : mg "check_outline" = some (.ref f_check)) :
    FnOk P w K mg base CX0 4 f fd ["_law_outline"] spAns := by
  have xf : XfC K C := ⟨R.ex.hg, R.ex.hk, R.ex.hs, R.ex.hd⟩
  refine F.ok scTold (fun vs H Q E h => ?_) (fun cdv A outer s H vs Q E hr h => ?_)
  · obtain ⟨v, o, rfl, _⟩ := h; rfl
  · obtain ⟨v, o, rfl, ho, q, e⟩ := h
    refine ⟨_, pss_cons (ps_try_as (i := 2) (Wout := fun _ _ _ _ => False) rfl rfl scTold.nd rfl rfl ⟨rfl, by decide, .inl N.gC⟩ takes0
        (fun W pn xe tk _ => pss_one (ps_set (i := 1) scTold.nd rfl (.inl rfl) (pe_callS G_check hr (by rfl) g_check F_check.kp b_check (fun σ => passAt tk σ) (pa_cons (pv 0) pa_nil))))
        (fun a oe cls d pn hz hf => pss_cons (ps_if (PW.pt (pw_or (pt_not (pt_val (pe_callB (call_isD R.ex hz hf) (by rfl) B.isi (by decide +kernel) (pa_cons (pv 2) (pa_cons (pe_glob (v := .ref CL) (by rfl) R.gL rfl) pa_nil)))))
            (pw_or1 (pt_not (pt_val (pe_callB (call_isD R.ex hz hf) (by rfl) B.isi (by decide +kernel) (pa_cons (pv 2) (pa_cons (pe_bltn (v := .ty "ValueError") (by rfl) B.ve (by decide +kernel) rfl) pa_nil))))))))
          (pss_one (ps_ret (pe_tup (pa_cons pe_str pa_nil)))) pss_nil)
          (pss_cons (ps_if (PW.pt (pw_or (pt_val (pe_callB (call_isD R.ex hz hf) (by rfl) B.isi (by decide +kernel) (pa_cons (pv 2) (pa_cons (pe_glob (v := .ref C1) (by rfl) R.g1 rfl) pa_nil))))
            (pw_or1 (pt_val (pe_callB (call_isD R.ex hz hf) (by rfl) B.isi (by decide +kernel) (pa_cons (pv 2) (pa_cons (pe_glob (v := .ref C2) (by rfl) R.g2 rfl) pa_nil)))))))
          (pss_one (ps_ret (pe_tup (pa_cons pe_str pa_nil)))) pss_nil)
          (pss_one (ps_ret (pe_tup (pa_cons pe_str (pa_cons (pe_xf xf N.fr hz hf (pv 2)) (pa_cons (pe_xf xf N.fp hz hf (pv 2)) pa_nil)))))))))
      (pss_cons (ps_if (pt_cmpR op_isN (pv 1) pe_non (nomark _)) (pss_one (ps_ret (pe_tup (pa_cons pe_str pa_nil)))) pss_nil)
      (pss_one (ps_ret (pe_tup (pa_cons pe_str pa_nil))))), ?_⟩
    have z1 : 1 ≤ sizeLine := by decide
    have z3 : 3 ≤ sizeLine := by decide
    refine ⟨v, rfl, v, o, rfl, ho, fun hok H' s' => ?_, fun r j hb H' d s' hd => ⟨true, R.exm, fun _ a ha => ?_, fun q => nomatch q⟩⟩
    · exact ⟨_, rfl, rfl, _, rfl, iteT ⟨z1, fun t nt => q hok _ _ (s'.trans (same_new nt)) (is_ok upd_same)⟩⟩
    · have isr : ∀ {c : V} {cv : Value}, (c = .ref CL ∧ cv = .ref CL) ∨ (c = .ty "ValueError" ∧ cv = .type "ValueError") ∨ (c = .ref C1 ∧ cv = .ref C1) ∨ (c = .ref C2 ∧ cv = .ref C2) → ∀ u, RelV c u → u = cv := by
        rintro c cv (⟨rfl, rfl⟩ | ⟨rfl, rfl⟩ | ⟨rfl, rfl⟩ | ⟨rfl, rfl⟩) u hu <;> exact hu
      refine ⟨.ref a, rfl, .ref CL, .ref CL, true, d, _, rfl, rfl, isr (.inl ⟨rfl, rfl⟩), R.k1, rfl, hd, _, rfl, iteF ?_⟩
      refine ⟨.ref a, rfl, .ty "ValueError", .type "ValueError", true, d, _, rfl, rfl, isr (.inr (.inl ⟨rfl, rfl⟩)), R.k2, rfl, hd, _, rfl, iteF ?_⟩
      refine ⟨.ref a, rfl, .ref C1, .ref C1, false, d, _, rfl, rfl, isr (.inr (.inr (.inl ⟨rfl, rfl⟩))), R.k3, rfl, hd, _, rfl, iteF ?_⟩
      refine ⟨.ref a, rfl, .ref C2, .ref C2, false, d, _, rfl, rfl, isr (.inr (.inr (.inr ⟨rfl, rfl⟩))), R.k4, rfl, hd, _, rfl, iteF ?_⟩
      refine ⟨.ref a, rfl, rfl, rfl, d, _, .int (r : Nat), rfl, hd, rfl, .ref a, rfl, rfl, rfl, d, _, .int (j : Nat), rfl, hd, rfl, z3, fun t nt => ?_⟩
      exact e r j hb _ _ (s'.trans (same_new nt)) (is_bad upd_same)
end
end K21

set_option maxRecDepth 100000
set_option maxHeartbeats 4000000
namespace K21
open PySem PySem.Spec PyProof.Rows L2
theorem many_of {m : Int} (h0 : 0 ≤ m) (h1 : m < 7) : ∃ k : Nat, k ≤ 6 ∧ ([2, 1, 3, 0, 4, 5, 6] : List Int)[m.toNat]? = some (k : Int) := by
  have h : m = 0 ∨ m = 1 ∨ m = 2 ∨ m = 3 ∨ m = 4 ∨ m = 5 ∨ m = 6 := by omega
  rcases h with rfl | rfl | rfl | rfl | rfl | rfl | rfl
  · exact ⟨2, by decide, rfl⟩
  · exact ⟨1, by decide, rfl⟩
  · exact ⟨3, by decide, rfl⟩
  · exact ⟨0, by decide, rfl⟩
  · exact ⟨4, by decide, rfl⟩
  · exact ⟨5, by decide, rfl⟩
  · exact ⟨6, by decide, rfl⟩
theorem dep_ok : DepLt 2 resOk := ⟨by decide, fun d h => by simp at h; subst h; exact trivial⟩
theorem dep_bad (r j : Nat) : DepLt 2 (resBad r j) := ⟨by show 3 ≤ 2000; decide, fun d h => by
  simp at h
  rcases h with rfl | rfl | rfl <;> exact trivial⟩
theorem AllR.one {H : Hp} {v : V} {r : List Pt} (h : IsRg H v r) : AllR H [v] [r] := AllR.nil.snoc h
theorem AllR.reverse {H : Hp} {xs : List V} {o : List (List Pt)} (h : AllR H xs o) : AllR H xs.reverse o.reverse := by
  refine ⟨by simp [h.1], fun i v r a b => ?_⟩
  have hi : i < xs.length := by have := (List.getElem?_eq_some_iff.mp a).1; simpa using this
  rw [List.getElem?_reverse hi] at a
  rw [List.getElem?_reverse (by have := h.1; omega), ← h.1] at b
  exact h.2 _ v r a b
theorem no_bad {o : List (List Pt)} {r j : Nat} (h : AllOk o) (b : FirstBad o r j) : False := bad_ok b.1 (h r j)
theorem all_ok {o : List (List Pt)} (h : ∀ ring ∈ o, GoodR ring) : AllOk o := fun r j ring p q e1 e2 e3 => (h ring (List.mem_of_getElem? e1)).2.2.2 j p q e2 e3
section
variable {P : Program} {w : World} {K : PySem.W.Frag} {mg : Str → Option Value} {base : Heap}
def spLaw (K : PySem.W.Frag) : Sp := fun vs H Q _ => ∃ (a : Addr) (ns : List Int), vs = [.ref a] ∧ SqL K H a (ns.map V.int) ∧ ns.length ≤ 63 ∧ ∀ H', Q (.bl true) H'
theorem scLaw : FnScope ["_law_script", "_law_row_here", "_law_many", "_law_rings", "_law_spoilt_here", "_law_turn", "_law_k"] ["_law_script"] (defScope sLaw) := ⟨rfl, rfl, rfl, by decide +kernel, rfl, by decide +kernel, by decide +kernel⟩
theorem ok_law {f C CL C1 C2 fI f_edges f_is_edge f_check f_cell f_row f_same f_reach f_ring f_spoilt f_first_bad f_told : Addr} {fd fdI fd_edges fd_is_edge fd_check fd_cell fd_row fd_same fd_reach fd_ring fd_spoilt fd_first_bad fd_told : FuncData} (B : Blt mg) (N : BadO K mg C fI fdI) (R : Errs K mg C CL C1 C2) (F : Fun K "law" "law" sLaw f fd)
    (F_edges : Fun K "_edges" "_edges" sEdges f_edges fd_edges) (b_edges : Binds K fd_edges ["ring"] []) (g_edges : mg "_edges" = some (.ref f_edges))
    (F_is_edge : Fun K "_is_edge" "_is_edge" sIsEdge f_is_edge fd_is_edge) (b_is_edge : Binds K fd_is_edge ["start", "end"] []) (g_is_edge : mg "_is_edge" = some (.ref f_is_edge))
    (F_check : Fun K "check_outline" "check_outline" sCheck f_check fd_check) (b_check : Binds K fd_check ["outline"] []) (g_check : mg "check_outline" = some (.ref f_check))
    (F_cell : Fun K "_law_cell" "_law_cell" sCell f_cell fd_cell) (b_cell : Binds K fd_cell ["_law_script", "_law_k"] []) (g_cell : mg "_law_cell" = some (.ref f_cell))
    (F_row : Fun K "_law_row" "_law_row" sRow f_row fd_row) (b_row : Binds K fd_row ["_law_cell_here", "_law_limits"] []) (g_row : mg "_law_row" = some (.ref f_row))
    (F_same : Fun K "_law_same" "_law_same" sSame f_same fd_same) (b_same : Binds K fd_same ["_law_one", "_law_two"] []) (g_same : mg "_law_same" = some (.ref f_same))
    (F_reach : Fun K "_law_reach" "_law_reach" sReach f_reach fd_reach) (b_reach : Binds K fd_reach ["_law_point"] []) (g_reach : mg "_law_reach" = some (.ref f_reach))
    (F_ring : Fun K "_law_ring" "_law_ring" sRing f_ring fd_ring) (b_ring : Binds K fd_ring ["_law_cell_here"] []) (g_ring : mg "_law_ring" = some (.ref f_ring))
    (F_spoilt : Fun K "_law_spoilt" "_law_spoilt" sSpoilt f_spoilt fd_spoilt) (b_spoilt : Binds K fd_spoilt ["_law_rings", "_law_row_here"] []) (g_spoilt : mg "_law_spoilt" = some (.ref f_spoilt))
    (F_first_bad : Fun K "_law_first_bad" "_law_first_bad" sFirst f_first_bad fd_first_bad) (b_first_bad : Binds K fd_first_bad ["_law_outline"] []) (g_first_bad : mg "_law_first_bad" = some (.ref f_first_bad))
    (F_told : Fun K "_law_told" "_law_told" sTold f_told fd_told) (b_told : Binds K fd_told ["_law_outline"] []) (g_told : mg "_law_told" = some (.ref f_told)) :
    FnOk P w K mg base CX0 5 f fd ["_law_script"] (spLaw K) := by
  have G_check : FnOk P w K mg base (L2.CX P w) 3 f_check fd_check ["outline"] (spCheck C) := ok_check B N F_check F_edges b_edges g_edges F_is_edge b_is_edge g_is_edge
  have G_cell : FnOk P w K mg base CX0 1 f_cell fd_cell ["_law_script", "_law_k"] (spCell K) := ok_cell B F_cell
  have G_row : FnOk P w K mg base CX0 1 f_row fd_row ["_law_cell_here", "_law_limits"] (spRow K) := ok_row B F_row
  have G_same : FnOk P w K mg base CX0 3 f_same fd_same ["_law_one", "_law_two"] (spSame 2) := ok_same B F_same b_same g_same 2
  have G_ring : FnOk P w K mg base CX0 2 f_ring fd_ring ["_law_cell_here"] spRing := ok_ring B F_ring F_row b_row g_row F_reach b_reach g_reach
  have G_spoilt : FnOk P w K mg base CX0 2 f_spoilt fd_spoilt ["_law_rings", "_law_row_here"] spSpoilt := ok_spoilt B F_spoilt F_reach b_reach g_reach
  have G_first_bad : FnOk P w K mg base CX0 1 f_first_bad fd_first_bad ["_law_outline"] spAns := ok_first B F_first_bad
  have G_told : FnOk P w K mg base CX0 4 f_told fd_told ["_law_outline"] spAns := ok_told B N R F_told G_check F_check b_check g_check
  refine F.ok scLaw (fun vs H Q E h => ?_) (fun cdv A outer s H vs Q E hr h => ?_)
  · obtain ⟨a, ns, rfl, _⟩ := h; rfl
  · obtain ⟨a, ns, rfl, hS, hlen, q⟩ := h
    have hr1 : Room 1 _ := hr.mono (by decide)
    have hr2 : Room 2 _ := hr.mono (by decide)
    have hr3 : Room 3 _ := hr.mono (by decide)
    refine ⟨_, (pss_cons (ps_set (i := 1) scLaw.nd rfl (.inl rfl) (pe_call G_row hr1 (by rfl) g_row F_row.kp b_row .nil pass0 (pa_cons (pe_call G_cell hr1 (by rfl) g_cell F_cell.kp b_cell .nil pass0 (pa_cons (pv 0) (pa_cons pe_int pa_nil))) (pa_cons (pe_op op_cat (pe_lst (pa_cons pe_int (pa_cons pe_int pa_nil))) (pe_op op_rep (pe_lst (pa_cons pe_int (pa_cons pe_int (pa_cons pe_int (pa_cons pe_int (pa_cons pe_int pa_nil)))))) pe_int)) pa_nil))))
      (pss_cons (ps_set (i := 2) scLaw.nd rfl (.inl rfl) (pe_ix ix_list (pe_lst (pa_cons pe_int (pa_cons pe_int (pa_cons pe_int (pa_cons pe_int (pa_cons pe_int (pa_cons pe_int (pa_cons pe_int pa_nil)))))))) (pe_ix ix_list (pv 1) pe_int (fun _ _ => rfl)) (fun _ _ => rfl)))
      (pss_cons (ps_setLc (i := 3) (own := [("_law_k", 6)]) (g := gName 6) (tt := tYes) rfl scLaw.nd rfl rfl (sw_true rfl rfl rfl (by decide +kernel)) (pi_range1 (by rfl) B.range (pa_cons (pv 2) pa_nil)) (blkOk_by (N := ["_law_script", "_law_row_here", "_law_many", "_law_rings", "_law_spoilt_here", "_law_turn", "_law_k"]) (sc := defScope sLaw) (by decide +kernel)) (fun _ _ _ _ _ => (pg_name (i := 6) scLaw.nd rfl (.inl rfl))) (fun _ _ _ _ _ => pts_nil) (fun _ _ _ _ _ => (pe_call G_ring hr2 (by rfl) g_ring F_ring.kp b_ring .nil pass0 (pa_cons (pe_op op_add (pe_call G_cell hr1 (by rfl) g_cell F_cell.kp b_cell .nil pass0 (pa_cons (pv 0) (pa_cons (pe_op op_add (pv 6) pe_int) pa_nil))) (pe_op op_mul pe_int (pv 6))) pa_nil))))
      (pss_cons (ps_set (i := 4) scLaw.nd rfl (.inl rfl) (pe_call G_spoilt hr2 (by rfl) g_spoilt F_spoilt.kp b_spoilt .nil pass0 (pa_cons (pv 3) (pa_cons (pv 1) pa_nil))))
      (pss_cons (ps_for (PassesOwn.never) rfl (pi_range1 (by rfl) B.range (pa_cons pe_int pa_nil)) (pg_name (i := 5) scLaw.nd rfl (.inl rfl))
      (pss_cons (ps_if (pt_not (pt_val (pe_call G_same hr3 (by rfl) g_same F_same.kp b_same .nil pass0 (pa_cons (pe_call G_told hr (by rfl) g_told F_told.kp b_told .nil pass0 (pa_cons (pe_callTy call_tuple_of (by rfl) B.tuple (by decide +kernel) (pa_cons (pv 3) pa_nil)) pa_nil)) (pa_cons (pe_tup (pa_cons pe_str pa_nil)) pa_nil)))))
       (pss_one (ps_ret pe_bl))
       pss_nil)
       (Evl.pss_cut (ps_if (pt_not (pt_val (pe_call G_same hr3 (by rfl) g_same F_same.kp b_same .nil pass0 (pa_cons (pe_call G_told hr (by rfl) g_told F_told.kp b_told .nil pass0 (pa_cons (pv 4) pa_nil)) (pa_cons (pe_call G_first_bad hr1 (by rfl) g_first_bad F_first_bad.kp b_first_bad .nil pass0 (pa_cons (pv 4) pa_nil)) pa_nil)))))
       (pss_one (ps_ret pe_bl))
       pss_nil)
       (pss_cons (ps_for (PassesOwn.never) rfl (pi_range1 (by rfl) B.range (pa_cons (pe_callB call_len (by rfl) B.len PySem.boot_len (pa_cons (pv 3) pa_nil)) pa_nil)) (pg_name (i := 6) scLaw.nd rfl (.inl rfl))
       (pss_cons (ps_if (pt_not (pt_val (pe_call G_same hr3 (by rfl) g_same F_same.kp b_same .nil pass0 (pa_cons (pe_call G_told hr (by rfl) g_told F_told.kp b_told .nil pass0 (pa_cons (pe_tup (pa_cons (pe_ix ix_list (pv 3) (pv 6) (fun _ _ => rfl)) pa_nil)) pa_nil)) (pa_cons (pe_tup (pa_cons pe_str pa_nil)) pa_nil)))))
        (pss_one (ps_ret pe_bl))
        pss_nil)
        (pss_one (ps_if (pt_not (pt_val (pe_call G_same hr3 (by rfl) g_same F_same.kp b_same .nil pass0 (pa_cons (pe_call G_told hr (by rfl) g_told F_told.kp b_told .nil pass0 (pa_cons (pe_tup (pa_cons (pe_ix ix_tup (pv 4) (pv 6) (fun _ _ => rfl)) pa_nil)) pa_nil)) (pa_cons (pe_call G_first_bad hr1 (by rfl) g_first_bad F_first_bad.kp b_first_bad .nil pass0 (pa_cons (pe_tup (pa_cons (pe_ix ix_tup (pv 4) (pv 6) (fun _ _ => rfl)) pa_nil)) pa_nil)) pa_nil)))))
        (pss_one (ps_ret pe_bl))
        pss_nil))))
       (pss_one (ps_if (pt_not (pt_val (pe_call G_same hr3 (by rfl) g_same F_same.kp b_same .nil pass0 (pa_cons (pe_call G_told hr (by rfl) g_told F_told.kp b_told .nil pass0 (pa_cons (pe_revT (pv 4)) pa_nil)) (pa_cons (pe_call G_first_bad hr1 (by rfl) g_first_bad F_first_bad.kp b_first_bad .nil pass0 (pa_cons (pe_revT (pv 4)) pa_nil)) pa_nil)))))
       (pss_one (ps_ret pe_bl))
       pss_nil))))))
      (pss_one (ps_ret pe_bl))))))), ?_⟩
    have z1 : 1 ≤ sizeLine := by decide
    have z2 : 2 ≤ sizeLine := by decide
    refine ⟨.ref a, rfl, a, ns, 0, rfl, hS, hlen, by decide, fun c => ⟨z2, fun l1 n1 => ⟨(by show 5 ≤ sizeLine; decide), fun l2 n2 => ?_⟩⟩⟩
    have t1 : Same H (upd H l1 (.lst [.int 7, .int 4])) := same_new n1
    have e1 : (upd H l1 (.lst [.int 7, .int 4])) l1 = some (.lst [.int 7, .int 4]) := upd_same
    generalize upd H l1 (.lst [.int 7, .int 4]) = H1 at t1 e1 n2 ⊢
    have t2 : Same H1 (upd H1 l2 (.lst [.int 6, .int 20, .int 4, .int 13, .int 13])) := same_new n2
    have e2 : (upd H1 l2 (.lst [.int 6, .int 20, .int 4, .int 13, .int 13])) l2 = some (.lst [.int 6, .int 20, .int 4, .int 13, .int 13]) := upd_same
    generalize upd H1 l2 (.lst [.int 6, .int 20, .int 4, .int 13, .int 13]) = H2 at t2 e2 ⊢
    refine ⟨l2, 3, _, rfl, rfl, e2, by decide, by decide, by show 5 * 3 ≤ sizeLine; decide, fun l3 n3 => ?_⟩
    have t3 : Same H2 (upd H2 l3 (.lst (List.replicate (3 : Int).toNat [V.int 6, V.int 20, V.int 4, V.int 13, V.int 13]).flatten)) := same_new n3
    have e3 : (upd H2 l3 (.lst (List.replicate (3 : Int).toNat [V.int 6, V.int 20, V.int 4, V.int 13, V.int 13]).flatten)) l3 = some (.lst (List.replicate (3 : Int).toNat [V.int 6, V.int 20, V.int 4, V.int 13, V.int 13]).flatten) := upd_same
    generalize upd H2 l3 (.lst (List.replicate (3 : Int).toNat [V.int 6, V.int 20, V.int 4, V.int 13, V.int 13]).flatten) = H3 at t3 e3 ⊢
    refine ⟨l1, l3, _, _, rfl, rfl, (t2.trans t3) _ _ e1, e3, by show 17 ≤ sizeLine; decide, fun l4 n4 => ?_⟩
    have t4 : Same H3 (upd H3 l4 (.lst (limS.map V.int))) := same_new n4
    have e4 : (upd H3 l4 (.lst (limS.map V.int))) l4 = some (.lst (limS.map V.int)) := upd_same
    have ew : ([.int 7, .int 4] ++ (List.replicate (3 : Int).toNat [V.int 6, V.int 20, V.int 4, V.int 13, V.int 13]).flatten : List V) = limS.map V.int := rfl
    rw [ew]
    generalize upd H3 l4 (.lst (limS.map V.int)) = H4 at t4 e4 ⊢
    refine ⟨c, l4, limS, rfl, SqL.of e4, by decide, by decide, fun H5 r rs t5 nr er hrow => ?_⟩
    have at_ : ∀ {j : Nat} {v : Int}, rs[j]? = some v → (rs.map V.int)[j]? = some (.int v) := fun e => by rw [List.getElem?_map, e]; rfl
    obtain ⟨m0, em, hm0, hm1⟩ := hrow.2 0 7 rfl
    obtain ⟨many, hmany, eman⟩ := many_of hm0 hm1
    have sA : Same H H5 := t1.trans (t2.trans (t3.trans (t4.trans t5)))
    refine ⟨(by show 7 ≤ sizeLine; decide), fun l5 n5 => ?_⟩
    have t6 : Same H5 (upd H5 l5 (.lst (([2, 1, 3, 0, 4, 5, 6] : List Int).map V.int))) := same_new n5
    have e6 : (upd H5 l5 (.lst (([2, 1, 3, 0, 4, 5, 6] : List Int).map V.int))) l5 = some (.lst (([2, 1, 3, 0, 4, 5, 6] : List Int).map V.int)) := upd_same
    have ew6 : ([.int 2, .int 1, .int 3, .int 0, .int 4, .int 5, .int 6] : List V) = ([2, 1, 3, 0, 4, 5, 6] : List Int).map V.int := rfl
    rw [ew6]
    generalize upd H5 l5 (.lst (([2, 1, 3, 0, 4, 5, 6] : List Int).map V.int)) = H6 at t6 e6 ⊢
    refine ⟨.ref r, rfl, r, _, 0, .int m0, rfl, rfl, SqL.of (t6 _ _ er), atI_nat (at_ em), l5, _, m0, .int (many : Int), rfl, rfl, SqL.of e6, at_of (j := m0.toNat) (by omega) (by rw [List.getElem?_map, eman]; rfl), ?_⟩
    refine ⟨.int (many : Int), rfl, (many : Int), rfl, by omega, by omega, fun D hD => ?_⟩
    rw [Int.toNat_natCast]
    have sB : Same H H6 := sA.trans t6
    refine lc_range (lo := 0) (n := many) (fun i H' => ∃ vs o, Same H6 H' ∧ H' D = some (.lst vs) ∧ AllR H' vs o ∧ o.length = i ∧ ∀ ring ∈ o, GoodR ring) ⟨[], [], same_new hD, upd_same, AllR.nil, rfl, fun r h => by cases h⟩ ?_ ?_
    · rintro i H' hi ⟨vs, o, sm, hd, hall, hn, hgood⟩
      have e0 : (0 : Int) + (i : Int) = (i : Int) := by omega
      rw [e0]
      refine ⟨rfl, .ref a, rfl, .int (i : Int), rfl, (i : Int), 1, rfl, rfl, a, ns, (i : Int) + 1, rfl, (sB.trans sm).seq hS, hlen, by omega, fun c => ?_⟩
      refine ⟨.int (i : Int), rfl, 7919, (i : Int), rfl, rfl, .inl ⟨by decide, by decide⟩, c, 7919 * (i : Int), rfl, rfl, _, rfl, fun H7 v ring s7 hrg hgr => ?_⟩
      have hvl := hall.1
      have st : SameT H7 (upd H7 D (.lst (vs ++ [v]))) := SameT.lst (s7 _ _ hd)
      refine ⟨vs, s7 _ _ hd, small1000 (by omega), vs ++ [v], o ++ [ring], same_at (sm.trans s7) hD, upd_same, ((hall.mono s7).monoT st).snoc (hrg.monoT st), by rw [List.length_append, hn]; rfl, fun r hr => ?_⟩
      rcases List.mem_append.mp hr with h | h
      · exact hgood r h
      · rw [List.mem_singleton.mp h]; exact hgr
    · rintro H7 ⟨vs, o, sm, hd, hall, hn, hgood⟩
      have hok := all_ok hgood
      have hvl := hall.1
      refine ⟨.ref D, rfl, .ref r, rfl, D, r, vs, o, rs, rfl, hd, hall, by omega, hgood, (t6.trans sm) _ _ er, hrow, fun H8 vsp o2 s8 ho2 hl2 => ?_⟩
      obtain ⟨sa, ys, rfl, hsa, hall2, hz2⟩ := ho2
      have hyl := hall2.1
      have hd8 := s8 _ _ hd
      have hall8 := hall.mono s8
      refine ⟨2, rfl, by decide, by decide, ?_⟩
      refine for_range (lo := 0) (n := 2) (fun n σ H' => ∃ y5 y6, σ = [some (.ref a), some (.ref r), some (.int (many : Int)), some (.ref D), some (.ref sa), y5, y6] ∧ Same H8 H') ⟨none, none, rfl, Same.refl _⟩ ?_ ?_
      · rintro n σ G hn2 ⟨y5, y6, rfl, sG⟩
        refine ⟨.ref D, rfl, D, vs, rfl, .inl ⟨SqL.of (sG _ _ hd8), fun l nl => ?_⟩⟩
        have s1 : Same G (upd G l (.tup vs)) := same_new nl
        have el : (upd G l (.tup vs)) l = some (.tup vs) := upd_same
        generalize upd G l (.tup vs) = G1 at s1 el ⊢
        refine ⟨.ref l, o, rfl, ⟨l, vs, rfl, el, hall8.mono (sG.trans s1), by omega⟩, fun _ G2 x s2 hx => ⟨z1, fun t nt => ?_⟩, fun r j hb => (no_bad hok hb).elim⟩
        have s3 : Same G2 (upd G2 t (.tup [.str (Str.ofString "allowed")])) := same_new nt
        refine ⟨x, .ref t, resOk, rfl, hx.mono (tups_of s3), is_ok upd_same, dep_ok, true, rfl, iteF ?_⟩
        have sC : Same H8 (upd G2 t (.tup [.str (Str.ofString "allowed")])) := sG.trans (s1.trans (s2.trans s3))
        generalize upd G2 t (.tup [.str (Str.ofString "allowed")]) = G3 at sC ⊢
        have hO : ∀ {G4 : Hp}, Same H8 G4 → IsO G4 (.ref sa) o2 := fun s => ⟨sa, ys, rfl, s _ _ hsa, hall2.mono s, hz2⟩
        refine ⟨fun σ' H' => σ' = [some (.ref a), some (.ref r), some (.int (many : Int)), some (.ref D), some (.ref sa), some (.int ((0 : Int) + (n : Int))), y6] ∧ Same H8 H', ?_, fun σ' G4 ⟨eσ, s4⟩ => ?_⟩
        · refine ⟨.ref sa, rfl, .ref sa, o2, rfl, hO sC, fun hk G5 x s5 hx => ⟨.ref sa, rfl, .ref sa, o2, rfl, hO (sC.trans s5), fun _ G6 y s6 hy => ⟨x, y, resOk, rfl, hx.mono (tups_of s6), hy, dep_ok, true, rfl, iteF ⟨rfl, sC.trans (s5.trans s6)⟩⟩, fun r j hb => (no_bad hk hb).elim⟩,
            fun r1 j1 hb G5 x s5 hx => ⟨.ref sa, rfl, .ref sa, o2, rfl, hO (sC.trans s5), fun hk => (no_bad hk hb).elim, fun r2 j2 hb2 G6 y s6 hy => ?_⟩⟩
          obtain ⟨rfl, rfl⟩ := first_one hb hb2
          exact ⟨x, y, resBad r1 j1, rfl, hx.mono (tups_of s6), hy, dep_bad _ _, true, rfl, iteF ⟨rfl, sC.trans (s5.trans s6)⟩⟩
        · subst eσ
          refine ⟨.ref D, rfl, .ref D, vs.length, rfl, .inl ⟨_, SqL.of (s4 _ _ hd8), rfl⟩, (vs.length : Int), rfl, by omega, by omega, ?_⟩
          rw [Int.toNat_natCast]
          refine for_range (lo := 0) (n := vs.length) (fun k σ H' => ∃ y5 y6, σ = [some (.ref a), some (.ref r), some (.int (many : Int)), some (.ref D), some (.ref sa), y5, y6] ∧ Same H8 H') ⟨_, _, rfl, s4⟩ ?_ ?_
          · rintro k σ G5 hk ⟨y5, y6, rfl, s5⟩
            have e0 : (0 : Int) + (k : Int) = (k : Int) := by omega
            rw [e0]
            have exk : vs[k]? = some (vs[k]'hk) := by simp
            generalize vs[k]'hk = xk at exk
            obtain ⟨ring, erk, hrk⟩ := hall8.get' exk
            have hokr : AllOk [ring] := all_ok fun z hz => by rw [List.mem_singleton.mp hz]; exact hgood ring (List.mem_of_getElem? erk)
            have eyk : ys[k]? = some (ys[k]'(by omega)) := by simp
            generalize ys[k]'(by omega) = yk at eyk
            obtain ⟨ring2, erk2, hrk2⟩ := hall2.get' eyk
            have one : ∀ {G : Hp} {t : Addr} {v : V} {rg : List Pt}, IsRg G v rg → G t = some (.tup [v]) → IsO G (.ref t) [rg] := fun h e => ⟨_, _, rfl, e, AllR.one h, by show 1 ≤ 100; decide⟩
            refine ⟨.ref D, rfl, .int (k : Int), rfl, D, vs, (k : Int), xk, rfl, rfl, SqL.of (s5 _ _ hd8), atI_nat exk, z1, fun t nt => ?_⟩
            have u1 : Same G5 (upd G5 t (.tup [xk])) := same_new nt
            have et : (upd G5 t (.tup [xk])) t = some (.tup [xk]) := upd_same
            generalize upd G5 t (.tup [xk]) = G6 at u1 et ⊢
            refine ⟨.ref t, [ring], rfl, one (hrk.mono (s5.trans u1)) et, fun _ G7 x u2 hx => ⟨z1, fun t2 nt2 => ?_⟩, fun r j hb => (no_bad hokr hb).elim⟩
            have u3 : Same G7 (upd G7 t2 (.tup [.str (Str.ofString "allowed")])) := same_new nt2
            refine ⟨x, .ref t2, resOk, rfl, hx.mono (tups_of u3), is_ok upd_same, dep_ok, true, rfl, iteF ?_⟩
            have s6 : Same H8 (upd G7 t2 (.tup [.str (Str.ofString "allowed")])) := s5.trans (u1.trans (u2.trans u3))
            generalize upd G7 t2 (.tup [.str (Str.ofString "allowed")]) = G8 at s6 ⊢
            refine ⟨.ref sa, rfl, .int (k : Int), rfl, sa, ys, (k : Int), yk, rfl, rfl, SqT.of (s6 _ _ hsa), atI_nat eyk, z1, fun t3 nt3 => ?_⟩
            have u4 : Same G8 (upd G8 t3 (.tup [yk])) := same_new nt3
            have et3 : (upd G8 t3 (.tup [yk])) t3 = some (.tup [yk]) := upd_same
            generalize upd G8 t3 (.tup [yk]) = G9 at u4 et3 ⊢
            have s7 := s6.trans u4
            refine ⟨.ref t3, [ring2], rfl, one (hrk2.mono s7) et3, fun hk2 GA x u5 hx => ⟨.ref sa, rfl, .int (k : Int), rfl, sa, ys, (k : Int), yk, rfl, rfl, SqT.of ((s7.trans u5) _ _ hsa), atI_nat eyk, z1, fun t4 nt4 => ?_⟩, fun r1 j1 hb GA x u5 hx => ⟨.ref sa, rfl, .int (k : Int), rfl, sa, ys, (k : Int), yk, rfl, rfl, SqT.of ((s7.trans u5) _ _ hsa), atI_nat eyk, z1, fun t4 nt4 => ?_⟩⟩
            all_goals
              have u6 : Same GA (upd GA t4 (.tup [yk])) := same_new nt4
              have et4 : (upd GA t4 (.tup [yk])) t4 = some (.tup [yk]) := upd_same
              generalize upd GA t4 (.tup [yk]) = GB at u6 et4 ⊢
              have s8' := s7.trans (u5.trans u6)
            · exact ⟨.ref t4, [ring2], rfl, one (hrk2.mono s8') et4, fun _ GC y u7 hy => ⟨x, y, resOk, rfl, hx.mono (tups_of (u6.trans u7)), hy, dep_ok, true, rfl, iteF ⟨_, _, rfl, s8'.trans u7⟩⟩, fun r j hb => (no_bad hk2 hb).elim⟩
            · refine ⟨.ref t4, [ring2], rfl, one (hrk2.mono s8') et4, fun hk2 => (no_bad hk2 hb).elim, fun r2 j2 hb2 GC y u7 hy => ?_⟩
              obtain ⟨rfl, rfl⟩ := first_one hb hb2
              exact ⟨x, y, resBad r1 j1, rfl, hx.mono (tups_of (u6.trans u7)), hy, dep_bad _ _, true, rfl, iteF ⟨_, _, rfl, s8'.trans u7⟩⟩
          · rintro σ G5 ⟨y5, y6, rfl, s5⟩
            have rv : ∀ {G : Hp} {p : Addr}, Same H8 G → G p = some (.tup ys.reverse) → IsO G (.ref p) o2.reverse := fun s e => ⟨_, _, rfl, e, (hall2.mono s).reverse, by rw [List.length_reverse]; exact hz2⟩
            refine ⟨.ref sa, rfl, sa, ys, rfl, SqT.of (s5 _ _ hsa), fun p np => ?_⟩
            have u1 : Same G5 (upd G5 p (.tup ys.reverse)) := same_new np
            have ep : (upd G5 p (.tup ys.reverse)) p = some (.tup ys.reverse) := upd_same
            generalize upd G5 p (.tup ys.reverse) = G6 at u1 ep ⊢
            have s6 := s5.trans u1
            refine ⟨.ref p, o2.reverse, rfl, rv s6 ep, fun hk2 GA x u5 hx => ⟨.ref sa, rfl, sa, ys, rfl, SqT.of ((s6.trans u5) _ _ hsa), fun p2 np2 => ?_⟩, fun r1 j1 hb GA x u5 hx => ⟨.ref sa, rfl, sa, ys, rfl, SqT.of ((s6.trans u5) _ _ hsa), fun p2 np2 => ?_⟩⟩
            all_goals
              have u6 : Same GA (upd GA p2 (.tup ys.reverse)) := same_new np2
              have ep2 : (upd GA p2 (.tup ys.reverse)) p2 = some (.tup ys.reverse) := upd_same
              generalize upd GA p2 (.tup ys.reverse) = GB at u6 ep2 ⊢
              have s8' := s6.trans (u5.trans u6)
            · exact ⟨.ref p2, o2.reverse, rfl, rv s8' ep2, fun _ GC y u7 hy => ⟨x, y, resOk, rfl, hx.mono (tups_of (u6.trans u7)), hy, dep_ok, true, rfl, iteF ⟨_, _, rfl, s8'.trans u7⟩⟩, fun r j hb => (no_bad hk2 hb).elim⟩
            · refine ⟨.ref p2, o2.reverse, rfl, rv s8' ep2, fun hk2 => (no_bad hk2 hb).elim, fun r2 j2 hb2 GC y u7 hy => ?_⟩
              obtain ⟨rfl, rfl⟩ := first_one hb hb2
              exact ⟨x, y, resBad r1 j1, rfl, hx.mono (tups_of (u6.trans u7)), hy, dep_bad _ _, true, rfl, iteF ⟨_, _, rfl, s8'.trans u7⟩⟩
      · rintro σ G ⟨y5, y6, rfl, sG⟩
        exact q G
end
end K21

set_option maxRecDepth 100000
set_option maxHeartbeats 4000000
namespace K21
open PySem PySem.Spec PyProof.Rows L2
theorem all_mk {l : PySem.W.OpenLaw} {w : World} {K : PySem.W.Frag} {h : Heap} {mg : Str → Option Value} {fa C CL C1 C2 f1 f2 f3 f4 f5 f6 f7 f8 f9 f10 f11 f12 f13 : Addr} (X : K.In h) (G : h.Ns mainGlobals mg) (hfa : mg "law" = some (.ref fa))
    {nm q : Str} {N : Addr} {bs bm : List Value} {sn : List Str} {sub : List Value} {ab : Bool} {col : Option Bool} {dd : Option Addr} {m0 m1 m2 m3 m5 : Option Value}
    {od1 an1 od2 an2 od3 an3 od4 an4 od5 an5 od6 an6 od7 an7 od8 an8 od9 an9 od10 an10 od11 an11 od12 an12 od13 an13 : Option Addr} {sl1 sl2 sl3 sl4 sl5 sl6 sl7 sl8 sl9 sl10 sl11 sl12 sl13 : Array (Option Value)}
    {oc1 kV1 dc1 pm1 cd1 ct1 oc2 kV2 dc2 pm2 cd2 ct2 oc3 kV3 dc3 pm3 cd3 ct3 oc4 kV4 dc4 pm4 cd4 ct4 oc5 kV5 dc5 pm5 cd5 ct5 oc6 kV6 dc6 pm6 cd6 ct6 oc7 kV7 dc7 pm7 cd7 ct7 oc8 kV8 dc8 pm8 cd8 ct8 oc9 kV9 dc9 pm9 cd9 ct9 oc10 kV10 dc10 pm10 cd10 ct10 oc11 kV11 dc11 pm11 cd11 ct11 oc12 kV12 dc12 pm12 cd12 ct12 oc13 kV13 dc13 pm13 cd13 ct13 : Value}
    (aC : PySem.W.nsIn K mainGlobals "BadOutline" = some (some (.ref C)))
    (aL : PySem.W.nsIn K mainGlobals "LaidError" = some (some (.ref CL)))
    (aS1 : PySem.W.nsIn K mainGlobals "BadFace" = some (some (.ref C1)))
    (aS2 : PySem.W.nsIn K mainGlobals "BadLine" = some (some (.ref C2)))
    (xC : K.lookup C = some (excClassObj nm q C N bs bm true sn sub ab col dd m0 m1 m2 m3 m5 "ValueError.__new__"))
    (xb : PySem.HandSPX.refsVE bm = true)
    (sa : PySem.W.findIn K (.ref C) "__setattr__" = some (some (.builtin "object.__setattr__")))
    (xe : PySem.W.subIn K (.ref C) (.type "BaseException") = some true)
    (xt : PySem.W.typeIn K (.ref C) = some (.type "type"))
    (xk : PySem.W.keepIn K (.ref C) = true)
    (fr : PySem.W.findIn K (.ref C) "ring" = some none)
    (fp : PySem.W.findIn K (.ref C) "point" = some none)
    (hg : PySem.W.findIn K (.ref C) "__getattribute__" = some (some (.builtin "BaseException.__getattribute__")))
    (hk : PySem.W.findIn K (.ref C) "__getattr__" = some none)
    (hd : PySem.W.hasDictIn K C = true)
    (ha : PySem.W.findIn K (.ref C) "__class__" = some (some (.builtin "object.__class__")))
    (hn : PySem.W.specialIn K (.builtin "object.__class__") "__get__" = some (some (.builtin "getset_descriptor.__get__")))
    (ht : PySem.W.takesIn K (.builtin "object.__class__") = some true)
    (hm : PySem.W.mroIn K C (.type "object") = some true)
    (ls : PySem.W.subIn K (.ref C) (.ref C) = some true)
    (q1 : PySem.W.kitOne K (.ref C) (.ref CL) = some true)
    (q2 : PySem.W.kitOne K (.ref C) (.type "ValueError") = some true)
    (q3 : PySem.W.kitOne K (.ref C) (.ref C1) = some false)
    (q4 : PySem.W.kitOne K (.ref C) (.ref C2) = some false)
    (a1 : PySem.W.findIn K (.ref C) "__init__" = some (some (.ref f1)))
    (l1 : K.lookup f1 = some ⟨oc1, od1, .func (PySem.W.fnOf "__init__" "BadOutline.__init__" (defArgs sInit) (defBody sInit) (defScope sInit) .none kV1 dc1 pm1 an1 cd1 ct1), sl1⟩)
    (c1 : PySem.W.codeIn K cd1 "BadOutline.__init__" = true)
    (k1 : PySem.W.keepIn K (.ref f1) = true)
    (t1 : PySem.W.typeIn K (.ref f1) = some (.type "function"))
    (a2 : PySem.W.nsIn K mainGlobals "_edges" = some (some (.ref f2)))
    (l2 : K.lookup f2 = some ⟨oc2, od2, .func (PySem.W.fnOf "_edges" "_edges" (defArgs sEdges) (defBody sEdges) (defScope sEdges) .none kV2 dc2 pm2 an2 cd2 ct2), sl2⟩)
    (c2 : PySem.W.codeIn K cd2 "_edges" = true)
    (k2 : PySem.W.keepIn K (.ref f2) = true)
    (a3 : PySem.W.nsIn K mainGlobals "_is_edge" = some (some (.ref f3)))
    (l3 : K.lookup f3 = some ⟨oc3, od3, .func (PySem.W.fnOf "_is_edge" "_is_edge" (defArgs sIsEdge) (defBody sIsEdge) (defScope sIsEdge) .none kV3 dc3 pm3 an3 cd3 ct3), sl3⟩)
    (c3 : PySem.W.codeIn K cd3 "_is_edge" = true)
    (k3 : PySem.W.keepIn K (.ref f3) = true)
    (a4 : PySem.W.nsIn K mainGlobals "check_outline" = some (some (.ref f4)))
    (l4 : K.lookup f4 = some ⟨oc4, od4, .func (PySem.W.fnOf "check_outline" "check_outline" (defArgs sCheck) (defBody sCheck) (defScope sCheck) .none kV4 dc4 pm4 an4 cd4 ct4), sl4⟩)
    (c4 : PySem.W.codeIn K cd4 "check_outline" = true)
    (k4 : PySem.W.keepIn K (.ref f4) = true)
    (a5 : PySem.W.nsIn K mainGlobals "_law_cell" = some (some (.ref f5)))
    (l5 : K.lookup f5 = some ⟨oc5, od5, .func (PySem.W.fnOf "_law_cell" "_law_cell" (defArgs sCell) (defBody sCell) (defScope sCell) .none kV5 dc5 pm5 an5 cd5 ct5), sl5⟩)
    (c5 : PySem.W.codeIn K cd5 "_law_cell" = true)
    (k5 : PySem.W.keepIn K (.ref f5) = true)
    (a6 : PySem.W.nsIn K mainGlobals "_law_row" = some (some (.ref f6)))
    (l6 : K.lookup f6 = some ⟨oc6, od6, .func (PySem.W.fnOf "_law_row" "_law_row" (defArgs sRow) (defBody sRow) (defScope sRow) .none kV6 dc6 pm6 an6 cd6 ct6), sl6⟩)
    (c6 : PySem.W.codeIn K cd6 "_law_row" = true)
    (k6 : PySem.W.keepIn K (.ref f6) = true)
    (a7 : PySem.W.nsIn K mainGlobals "_law_same" = some (some (.ref f7)))
    (l7 : K.lookup f7 = some ⟨oc7, od7, .func (PySem.W.fnOf "_law_same" "_law_same" (defArgs sSame) (defBody sSame) (defScope sSame) .none kV7 dc7 pm7 an7 cd7 ct7), sl7⟩)
    (c7 : PySem.W.codeIn K cd7 "_law_same" = true)
    (k7 : PySem.W.keepIn K (.ref f7) = true)
    (a8 : PySem.W.nsIn K mainGlobals "_law_reach" = some (some (.ref f8)))
    (l8 : K.lookup f8 = some ⟨oc8, od8, .func (PySem.W.fnOf "_law_reach" "_law_reach" (defArgs sReach) (defBody sReach) (defScope sReach) .none kV8 dc8 pm8 an8 cd8 ct8), sl8⟩)
    (c8 : PySem.W.codeIn K cd8 "_law_reach" = true)
    (k8 : PySem.W.keepIn K (.ref f8) = true)
    (a9 : PySem.W.nsIn K mainGlobals "_law_ring" = some (some (.ref f9)))
    (l9 : K.lookup f9 = some ⟨oc9, od9, .func (PySem.W.fnOf "_law_ring" "_law_ring" (defArgs sRing) (defBody sRing) (defScope sRing) .none kV9 dc9 pm9 an9 cd9 ct9), sl9⟩)
    (c9 : PySem.W.codeIn K cd9 "_law_ring" = true)
    (k9 : PySem.W.keepIn K (.ref f9) = true)
    (a10 : PySem.W.nsIn K mainGlobals "_law_spoilt" = some (some (.ref f10)))
    (l10 : K.lookup f10 = some ⟨oc10, od10, .func (PySem.W.fnOf "_law_spoilt" "_law_spoilt" (defArgs sSpoilt) (defBody sSpoilt) (defScope sSpoilt) .none kV10 dc10 pm10 an10 cd10 ct10), sl10⟩)
    (c10 : PySem.W.codeIn K cd10 "_law_spoilt" = true)
    (k10 : PySem.W.keepIn K (.ref f10) = true)
    (a11 : PySem.W.nsIn K mainGlobals "_law_first_bad" = some (some (.ref f11)))
    (l11 : K.lookup f11 = some ⟨oc11, od11, .func (PySem.W.fnOf "_law_first_bad" "_law_first_bad" (defArgs sFirst) (defBody sFirst) (defScope sFirst) .none kV11 dc11 pm11 an11 cd11 ct11), sl11⟩)
    (c11 : PySem.W.codeIn K cd11 "_law_first_bad" = true)
    (k11 : PySem.W.keepIn K (.ref f11) = true)
    (a12 : PySem.W.nsIn K mainGlobals "_law_told" = some (some (.ref f12)))
    (l12 : K.lookup f12 = some ⟨oc12, od12, .func (PySem.W.fnOf "_law_told" "_law_told" (defArgs sTold) (defBody sTold) (defScope sTold) .none kV12 dc12 pm12 an12 cd12 ct12), sl12⟩)
    (c12 : PySem.W.codeIn K cd12 "_law_told" = true)
    (k12 : PySem.W.keepIn K (.ref f12) = true)
    (a13 : PySem.W.nsIn K mainGlobals "law" = some (some (.ref f13)))
    (l13 : K.lookup f13 = some ⟨oc13, od13, .func (PySem.W.fnOf "law" "law" (defArgs sLaw) (defBody sLaw) (defScope sLaw) .none kV13 dc13 pm13 an13 cd13 ct13), sl13⟩)
    (c13 : PySem.W.codeIn K cd13 "law" = true)
    (k13 : PySem.W.keepIn K (.ref f13) = true)
    (z0 : PySem.W.nsIn K mainGlobals "len" = some none)
    (z1 : PySem.W.nsIn K mainGlobals "int" = some none)
    (z2 : PySem.W.nsIn K mainGlobals "str" = some none)
    (z3 : PySem.W.nsIn K mainGlobals "bool" = some none)
    (z4 : PySem.W.nsIn K mainGlobals "tuple" = some none)
    (z5 : PySem.W.nsIn K mainGlobals "list" = some none)
    (z6 : PySem.W.nsIn K mainGlobals "abs" = some none)
    (z7 : PySem.W.nsIn K mainGlobals "zip" = some none)
    (z8 : PySem.W.nsIn K mainGlobals "enumerate" = some none)
    (z9 : PySem.W.nsIn K mainGlobals "range" = some none)
    (z10 : PySem.W.nsIn K mainGlobals "isinstance" = some none)
    (z11 : PySem.W.nsIn K mainGlobals "ValueError" = some none) :
    ∃ fd : FuncData, (∀ (s : Shared) (v : Value), BindsTo s fd ⟨[v], []⟩ [("_law_script", v)]) ∧ ∀ base : Heap, K.In base → base.Ns mainGlobals mg → FnOk l.prog w K mg base CX0 5 fa fd ["_law_script"] (spLaw K) := by
  have e := hfa.symm.trans (PySem.W.mg_of X G a13); cases e
  have B : Blt mg := ⟨PySem.W.mg_none_of X G z0, PySem.W.mg_none_of X G z1, PySem.W.mg_none_of X G z2, PySem.W.mg_none_of X G z3, PySem.W.mg_none_of X G z4, PySem.W.mg_none_of X G z5, PySem.W.mg_none_of X G z6, PySem.W.mg_none_of X G z7, PySem.W.mg_none_of X G z8, PySem.W.mg_none_of X G z9, PySem.W.mg_none_of X G z10, PySem.W.mg_none_of X G z11⟩
  have F1 := fun_mk (st := sInit) l1 c1 k1
  have F2 := fun_mk (st := sEdges) l2 c2 k2
  have F3 := fun_mk (st := sIsEdge) l3 c3 k3
  have F4 := fun_mk (st := sCheck) l4 c4 k4
  have F5 := fun_mk (st := sCell) l5 c5 k5
  have F6 := fun_mk (st := sRow) l6 c6 k6
  have F7 := fun_mk (st := sSame) l7 c7 k7
  have F8 := fun_mk (st := sReach) l8 c8 k8
  have F9 := fun_mk (st := sRing) l9 c9 k9
  have F10 := fun_mk (st := sSpoilt) l10 c10 k10
  have F11 := fun_mk (st := sFirst) l11 c11 k11
  have F12 := fun_mk (st := sTold) l12 c12 k12
  have F13 := fun_mk (st := sLaw) l13 c13 k13
  have b1 := F1.binds (ps := ["self", "ring", "point"]) fun _ _ _ _ _ _ us hl => match us, hl with | [_, _, _], _ => rfl
  have b2 := F2.binds (ps := ["ring"]) fun _ _ _ _ _ _ us hl => match us, hl with | [_], _ => rfl
  have b3 := F3.binds (ps := ["start", "end"]) fun _ _ _ _ _ _ us hl => match us, hl with | [_, _], _ => rfl
  have b4 := F4.binds (ps := ["outline"]) fun _ _ _ _ _ _ us hl => match us, hl with | [_], _ => rfl
  have b5 := F5.binds (ps := ["_law_script", "_law_k"]) fun _ _ _ _ _ _ us hl => match us, hl with | [_, _], _ => rfl
  have b6 := F6.binds (ps := ["_law_cell_here", "_law_limits"]) fun _ _ _ _ _ _ us hl => match us, hl with | [_, _], _ => rfl
  have b7 := F7.binds (ps := ["_law_one", "_law_two"]) fun _ _ _ _ _ _ us hl => match us, hl with | [_, _], _ => rfl
  have b8 := F8.binds (ps := ["_law_point"]) fun _ _ _ _ _ _ us hl => match us, hl with | [_], _ => rfl
  have b9 := F9.binds (ps := ["_law_cell_here"]) fun _ _ _ _ _ _ us hl => match us, hl with | [_], _ => rfl
  have b10 := F10.binds (ps := ["_law_rings", "_law_row_here"]) fun _ _ _ _ _ _ us hl => match us, hl with | [_, _], _ => rfl
  have b11 := F11.binds (ps := ["_law_outline"]) fun _ _ _ _ _ _ us hl => match us, hl with | [_], _ => rfl
  have b12 := F12.binds (ps := ["_law_outline"]) fun _ _ _ _ _ _ us hl => match us, hl with | [_], _ => rfl
  have NP : BadO K mg C f1 _ := ⟨PySem.W.mg_of X G aC, ⟨⟨nm, q, N, bs, bm, sn, sub, ab, col, dd, m0, m1, m2, m3, m5, xC, xb⟩, sa, xe, xt, xk⟩, fr, fp, a1, t1, F1, b1⟩
  have ER : Errs K mg C CL C1 C2 := ⟨PySem.W.mg_of X G aL, PySem.W.mg_of X G aS1, PySem.W.mg_of X G aS2, ⟨hg, hk, xe, hd, ha, hn, ht, hm⟩, PySem.W.exm_ref xe hd xt ls, q1, q2, q3, q4⟩
  exact ⟨PySem.W.fnOf "law" "law" (defArgs sLaw) (defBody sLaw) (defScope sLaw) .none kV13 dc13 pm13 an13 cd13 ct13, fun s v => .of_eq rfl, fun base _ _ =>
    ok_law B NP ER F13 F2 b2 (PySem.W.mg_of X G a2) F3 b3 (PySem.W.mg_of X G a3) F4 b4 (PySem.W.mg_of X G a4) F5 b5 (PySem.W.mg_of X G a5) F6 b6 (PySem.W.mg_of X G a6) F7 b7 (PySem.W.mg_of X G a7) F8 b8 (PySem.W.mg_of X G a8) F9 b9 (PySem.W.mg_of X G a9) F10 b10 (PySem.W.mg_of X G a10) F11 b11 (PySem.W.mg_of X G a11) F12 b12 (PySem.W.mg_of X G a12)⟩
end K21
open PySem PySem.W PyProof.Rows
set_option maxRecDepth 100000 in
set_option maxHeartbeats 0 in
theorem PySem.Challenge.cw_laidforall_k21_first_bad_edge_holds : PySem.Challenge.rw_laidforall_k21_first_bad_edge.Holds := by
  w_on; o_law; k_head; (case hw => w_witness2)
  k_fill
  refine L2.walk_of (l := PySem.Challenge.rw_laidforall_k21_first_bad_edge) (n := 63) (k := 5) (x := "_law_script") (CX := fun _ => L2.CX0) (sp := fun w => K21.spLaw _) rfl (by decide) rfl ⟨rfl, by decide, by decide⟩ (fun w h Y => PySem.W.kIn_of Y) ?F (fun _ _ a ns hl _ hS => ⟨a, ns, rfl, hS, hl, fun _ => rfl⟩) (fun _ _ _ _ _ h => h)
  case F =>
    intro w mg fa h KX G hmg
    refine' K21.all_mk KX G hmg ?zz_aC ?zz_aL ?zz_aS1 ?zz_aS2 ?zz_xC ?zz_xb ?zz_sa ?zz_xe ?zz_xt ?zz_xk ?zz_fr ?zz_fp ?zz_hg ?zz_hk ?zz_hd ?zz_ha ?zz_hn ?zz_ht ?zz_hm ?zz_ls ?zz_q1 ?zz_q2 ?zz_q3 ?zz_q4 ?zz_a1 ?zz_l1 ?zz_c1 ?zz_k1 ?zz_t1 ?zz_a2 ?zz_l2 ?zz_c2 ?zz_k2 ?zz_a3 ?zz_l3 ?zz_c3 ?zz_k3 ?zz_a4 ?zz_l4 ?zz_c4 ?zz_k4 ?zz_a5 ?zz_l5 ?zz_c5 ?zz_k5 ?zz_a6 ?zz_l6 ?zz_c6 ?zz_k6 ?zz_a7 ?zz_l7 ?zz_c7 ?zz_k7 ?zz_a8 ?zz_l8 ?zz_c8 ?zz_k8 ?zz_a9 ?zz_l9 ?zz_c9 ?zz_k9 ?zz_a10 ?zz_l10 ?zz_c10 ?zz_k10 ?zz_a11 ?zz_l11 ?zz_c11 ?zz_k11 ?zz_a12 ?zz_l12 ?zz_c12 ?zz_k12 ?zz_a13 ?zz_l13 ?zz_c13 ?zz_k13 ?zz_z0 ?zz_z1 ?zz_z2 ?zz_z3 ?zz_z4 ?zz_z5 ?zz_z6 ?zz_z7 ?zz_z8 ?zz_z9 ?zz_z10 ?zz_z11
    (case zz_aC => first | k_is | rfl)
    (case zz_aL => first | k_is | rfl)
    (case zz_aS1 => first | k_is | rfl)
    (case zz_aS2 => first | k_is | rfl)
    (case zz_xC => first | k_is | rfl)
    (case zz_xb => decide +kernel)
    (case zz_sa => first | k_is | rfl)
    (case zz_xe => first | k_is | rfl)
    (case zz_xt => first | k_is | rfl)
    (case zz_xk => first | k_is | rfl)
    (case zz_fr => first | k_is | rfl)
    (case zz_fp => first | k_is | rfl)
    (case zz_hg => first | k_is | rfl)
    (case zz_hk => first | k_is | rfl)
    (case zz_hd => first | k_is | rfl)
    (case zz_ha => first | k_is | rfl)
    (case zz_hn => first | k_is | rfl)
    (case zz_ht => first | k_is | rfl)
    (case zz_hm => first | k_is | rfl)
    (case zz_ls => first | k_is | rfl)
    (case zz_q1 => first | k_is | rfl)
    (case zz_q2 => first | k_is | rfl)
    (case zz_q3 => first | k_is | rfl)
    (case zz_q4 => first | k_is | rfl)
    (case zz_a1 => first | k_is | rfl)
    (case zz_l1 => first | k_is | rfl)
    (case zz_c1 => first | k_is | rfl)
    (case zz_k1 => first | k_is | rfl)
    (case zz_t1 => first | k_is | rfl)
    (case zz_a2 => first | k_is | rfl)
    (case zz_l2 => first | k_is | rfl)
    (case zz_c2 => first | k_is | rfl)
    (case zz_k2 => first | k_is | rfl)
    (case zz_a3 => first | k_is | rfl)
    (case zz_l3 => first | k_is | rfl)
    (case zz_c3 => first | k_is | rfl)
    (case zz_k3 => first | k_is | rfl)
    (case zz_a4 => first | k_is | rfl)
    (case zz_l4 => first | k_is | rfl)
    (case zz_c4 => first | k_is | rfl)
    (case zz_k4 => first | k_is | rfl)
    (case zz_a5 => first | k_is | rfl)
    (case zz_l5 => first | k_is | rfl)
    (case zz_c5 => first | k_is | rfl)
    (case zz_k5 => first | k_is | rfl)
    (case zz_a6 => first | k_is | rfl)
    (case zz_l6 => first | k_is | rfl)
    (case zz_c6 => first | k_is | rfl)
    (case zz_k6 => first | k_is | rfl)
    (case zz_a7 => first | k_is | rfl)
    (case zz_l7 => first | k_is | rfl)
    (case zz_c7 => first | k_is | rfl)
    (case zz_k7 => first | k_is | rfl)
    (case zz_a8 => first | k_is | rfl)
    (case zz_l8 => first | k_is | rfl)
    (case zz_c8 => first | k_is | rfl)
    (case zz_k8 => first | k_is | rfl)
    (case zz_a9 => first | k_is | rfl)
    (case zz_l9 => first | k_is | rfl)
    (case zz_c9 => first | k_is | rfl)
    (case zz_k9 => first | k_is | rfl)
    (case zz_a10 => first | k_is | rfl)
    (case zz_l10 => first | k_is | rfl)
    (case zz_c10 => first | k_is | rfl)
    (case zz_k10 => first | k_is | rfl)
    (case zz_a11 => first | k_is | rfl)
    (case zz_l11 => first | k_is | rfl)
    (case zz_c11 => first | k_is | rfl)
    (case zz_k11 => first | k_is | rfl)
    (case zz_a12 => first | k_is | rfl)
    (case zz_l12 => first | k_is | rfl)
    (case zz_c12 => first | k_is | rfl)
    (case zz_k12 => first | k_is | rfl)
    (case zz_a13 => first | k_is | rfl)
    (case zz_l13 => first | k_is | rfl)
    (case zz_c13 => first | k_is | rfl)
    (case zz_k13 => first | k_is | rfl)
    (case zz_z0 => first | k_is | rfl)
    (case zz_z1 => first | k_is | rfl)
    (case zz_z2 => first | k_is | rfl)
    (case zz_z3 => first | k_is | rfl)
    (case zz_z4 => first | k_is | rfl)
    (case zz_z5 => first | k_is | rfl)
    (case zz_z6 => first | k_is | rfl)
    (case zz_z7 => first | k_is | rfl)
    (case zz_z8 => first | k_is | rfl)
    (case zz_z9 => first | k_is | rfl)
    (case zz_z10 => first | k_is | rfl)
    (case zz_z11 => first | k_is | rfl)

