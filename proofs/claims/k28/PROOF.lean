import PyProof.Rows.All
import Wide.All
import OpenK.AllK
import Wide.FinOn
import HandS.Zip
import HandS.Style
import HandS.ListItems
import KE.GoesMore
import KE.GoesZip
import HandS.ForMost
import HandS.OwnIter
import HandS.IterNext
import HandS.IterVal
import HandS.Call
import HandS.ExcOwn
import HandS.Comp
import HandS.Exc
import KE.KIsAll
import KE.KTryMore
import HandS.ForExc
import HandS.ExcInit
import HandS.ExcIs
import HandS.ExcField
import HandS.IsInst
import HandS.TupAny
import HandS.Walk
import HandS.NoneIn
import HandS.Evl
import HandS.Words
import HandS.FStr
import HandS.Text
import HandS.StrMore
import HandS.More
import HandS.Deep
import HandS.Codes
import HandS.Star
import HandS.TupLe
import PySem.Challenge.RW_laidforall_k28_joint_rows_are_read
set_option Elab.async false
set_option linter.all false
set_option maxRecDepth 100000
set_option maxHeartbeats 2000000
namespace RJ
open PySem PySem.Spec PyProof.Rows L2
/-! ### enumerate(text) -/
def IteS (x : Str) : It :=
  ⟨fun i H => i < x.cps.size, fun i H v H' => ∃ T c, v = .ref T ∧ H T = none ∧ H' = upd H T (.tup [.int (i : Nat), .str ⟨#[c]⟩]) ∧ x.cps[i]? = some c, fun i H => i = x.cps.size⟩
theorem turn_enumS {P : Program} {w : World} {K : PySem.W.Frag} {elts : List Expr} {kk : Nat} {tpos : Pos} (x : Str) (t : Tok) (e it : Addr) :
    Turn P w K (.Tuple elts kk tpos) (IteS x) [e, it] e (fun i h => (∃ old, IsEnum h e it ((i : Nat) : Int) old) ∧ h.IsStrIter it (strIterType x) x t i ∧ e ≠ it) where
  mem := by simp
  obj := fun i h st b hb => by
    obtain ⟨⟨old, he⟩, ⟨o, ho, hc, hd⟩, _⟩ := st
    have eb : b = e ∨ b = it := by simpa using hb
    rcases eb with y | y <;> rw [y]
    · exact ⟨_, he, fun v q => nomatch q⟩
    · exact ⟨o, ho, fun v q => by rw [hd] at q; cases q⟩
  keep := fun i h h' st k => let ⟨⟨old, he⟩, ⟨o, ho, r⟩, ne⟩ := st; ⟨⟨old, k e (by simp) _ he⟩, ⟨o, k it (by simp) o ho, r⟩, ne⟩
  item := by
    intro X hP hw hK hc i pins s σ H E I hf st hg
    subst hP hw hK
    obtain ⟨⟨old, he⟩, hit, ne⟩ := st
    have hel : e < s.heap.objs.size := Heap.lt_size he
    have hil : it < s.heap.objs.size := by obtain ⟨_, q, _⟩ := hit; exact Heap.lt_size q
    have hd0 : X.A.in1.handled = none := I.ok.hd hc
    refine wpAny_pyNext_enum_itemD (Draws.text hd0 it x t) he hit hg ne (by simp [ne]) fun u' h' tk hP2 ho st2 hT hsz hk => ?_
    obtain ⟨c, u, hx, rfl⟩ := hP2
    refine ⟨_, rfl, wpAny_letOwnedTupleGo_enum (s := { s with heap := h', toks := tk + 1 }) ho fun h'' he' sb => ?_⟩
    have hT2 : h''.get? s.heap.objs.size = some { cls := .type "tuple", data := .seq #[.int i tk, .str ⟨#[c]⟩ u] } := (sb.2 _ (Nat.ne_of_gt hel)).trans hT
    have new : ObjOk X.prog X.w (upd H s.heap.objs.size (.tup [.int (i : Nat), .str ⟨#[c]⟩])) h'' s.heap.objs.size (.tup [.int (i : Nat), .str ⟨#[c]⟩]) := ⟨by show 2 ≤ sizeLine; decide, [.int i tk, .str ⟨#[c]⟩ u], .cons ⟨_, rfl⟩ (.cons ⟨_, rfl⟩ .nil), ⟨_, hT2, rfl, _, rfl⟩⟩
    have I1 : Inv X pins σ (upd H s.heap.objs.size (.tup [.int (i : Nat), .str ⟨#[c]⟩])) { s with heap := h'', toks := tk + 1 } :=
      I.turnedNew (ch := [e, it]) (fun b ob hb q => (sb.2 b (fun z => hb (by simp [z]))).trans (hk b ob (fun z => hb (by simp [z])) (fun z => hb (by simp [z])) q)) hf (Nat.le_refl _) new
    refine ⟨.ref s.heap.objs.size, _, I1, rfl, ⟨_, c, rfl, I.hok.fresh (Nat.le_refl _), rfl, hx⟩, ⟨⟨.str ⟨#[c]⟩ u, ?_⟩, ?_, ne⟩, fun b hb => ?_⟩
    · rw [show ((i + 1 : Nat) : Int) = (i : Int) + 1 by omega]; exact he'
    · obtain ⟨o, q, r⟩ := st2
      exact ⟨o, (sb.2 it (Ne.symm ne)).trans q, r⟩
    · have eb : b = e ∨ b = it := by simpa using hb
      have hb' : b < s.heap.objs.size := by rcases eb with y | y <;> rw [y] <;> assumption
      rw [upd_ne (Nat.ne_of_lt hb')]; exact (hf b hb).1
  done := by
    intro X hP hw hK hc i pins s σ H E I hf st hg
    subst hP hw hK
    obtain ⟨⟨old, he⟩, hit, ne⟩ := st
    obtain ⟨f0, f1, f2, f3, f4, f5⟩ := hf it (by simp)
    have hd0 : X.A.in1.handled = none := I.ok.hd hc
    have hi : i = x.cps.size := hg
    refine wpAny_pyNext_enum_endD (Draws.text hd0 it x t) he (by rw [← hi]; exact hit) fun h' eb => ?_
    exact ⟨rfl, I.turned (t' := s.toks) (fun b o hb q => eb b o hb q) f0 f1 f3 f4 f5⟩
  self := fun A i s Q E st h => let ⟨⟨_, he⟩, _⟩ := st; wpAny_pyIter_enum he h
def iEnumS (ta : TA) : TI := fun σ H R => ta σ H fun vs H1 => ∃ x, vs = [.str x] ∧ R (IteS x) H1
theorem pi_enumS {X : Cx} {e : Expr} {ta : TA} {p pos tpos : Pos} {elts : List Expr} {kk : Nat} (hg : Gl X "enumerate") (hm : X.mg "enumerate" = none) (ha : PA X [e] ta) (hs : starEach [e] X.env = [(false, eval e X.env)] := by rfl) :
    PI X (.Tuple elts kk tpos) (.Call (.Name "enumerate" p) [e] [] pos) (iEnumS ta) := by
  refine ⟨fun pins s σ H R I h => Call_ (ld_blt I hg hm boot_enumerate (PyProof.Rows.callWith_type1 (thn (ha.run pos pins s σ H _ I h) fun us s1 ⟨vs, H1, I1, r1, q1⟩ => ?_) hs rfl))⟩
  obtain ⟨x, rfl, q⟩ := q1
  cases r1 with
  | cons r rr =>
    cases rr; obtain ⟨t, rfl⟩ := r
    refine call_enumerate_str fun h' he hit hsz hk => wpAny_pyIter_enum he ?_
    have I2 : Inv X pins σ H1 { s1 with heap := h' } := I1.kept (t' := s1.toks) hk
    refine ⟨s1.heap.objs.size + 1, [s1.heap.objs.size + 1, s1.heap.objs.size], _, _, H1, rfl, I2, turn_enumS x t (s1.heap.objs.size + 1) s1.heap.objs.size, ⟨⟨.none, he⟩, hit, Nat.succ_ne_self _⟩, fun b hb => ?_, q⟩
    have hle : s1.heap.objs.size ≤ b := by
      have eb : b = s1.heap.objs.size + 1 ∨ b = s1.heap.objs.size := by simpa using hb
      rcases eb with y | y <;> rw [y]
      · exact Nat.le_add_right _ _
      · exact Nat.le_refl _
    exact I1.fpOk hle (I1.hok.fresh hle)
theorem for_enumS {x : Str} {g : TG} {tb : TS} {D : Ends} {σ : L2.St} {H : Hp} (Pv : Nat → L2.St → Hp → Prop) (h0 : Pv 0 σ H)
    (hs : ∀ (i c : Nat) (T : Addr) (σ : L2.St) (H : Hp), x.cps[i]? = some c → Pv i σ H → H T = none → g (.ref T) σ (upd H T (.tup [.int (i : Nat), .str ⟨#[c]⟩])) fun σ2 H2 => tb { D with nx := Pv (i + 1), ct := Pv (i + 1), bk := D.nx } σ2 H2) (hd : ∀ σ H, Pv x.cps.size σ H → D.nx σ H) :
    ∃ W : Nat → Nat → L2.St → Hp → Prop, (∃ m, W 0 m σ H) ∧ ∀ i m σ H, W i m σ H →
      ((IteS x).stop i H ∧ D.nx σ H) ∨ ((IteS x).go i H ∧ ∃ N : L2.St → Hp → Prop, (∀ σ' H', N σ' H' → ∃ m', m' < m ∧ W (i + 1) m' σ' H') ∧ ∀ v H', (IteS x).yld i H v H' → g v σ H' fun σ2 H2 => tb { D with nx := N, ct := N, bk := D.nx } σ2 H2) := by
  refine ⟨fun i m σ H => m = x.cps.size - i ∧ i ≤ x.cps.size ∧ Pv i σ H, ⟨x.cps.size, rfl, Nat.zero_le _, h0⟩, fun i m σ H => ?_⟩
  rintro ⟨rfl, hi, p⟩
  by_cases hlt : i < x.cps.size
  · refine .inr ⟨hlt, Pv (i + 1), fun σ' H' p' => ⟨x.cps.size - (i + 1), by omega, rfl, hlt, p'⟩, fun v H' y => ?_⟩
    obtain ⟨T, c, rfl, hT, rfl, f1⟩ := y
    exact hs i c T σ H f1 p hT
  · obtain rfl : i = x.cps.size := by omega
    exact .inl ⟨rfl, hd σ H p⟩
/-! ### zip(text, text) -/
def ItzS (x y : Str) : It :=
  ⟨fun i H => i < x.cps.size ∧ i < y.cps.size, fun i H v H' => ∃ T c d, v = .ref T ∧ H T = none ∧ H' = upd H T (.tup [.str ⟨#[c]⟩, .str ⟨#[d]⟩]) ∧ x.cps[i]? = some c ∧ y.cps[i]? = some d,
    fun i H => i ≤ x.cps.size ∧ i ≤ y.cps.size ∧ (i = x.cps.size ∨ i = y.cps.size)⟩
theorem turn_zipS {P : Program} {w : World} {K : PySem.W.Frag} {elts : List Expr} {kk : Nat} {tpos : Pos} (x y : Str) (t1 t2 : Tok) {z TI TO i1 i2 : Addr} (S : ZipSep2 z TI TO i1 i2 [i1] [i2]) :
    Turn P w K (.Tuple elts kk tpos) (ItzS x y) [z, TI, TO, i1, i2] z (fun i h => IsZip h z TI TO .none ∧ IsTupOf2 h TI (.ref i1) (.ref i2) ∧ (∃ a b, IsTupOf2 h TO a b) ∧ h.IsStrIter i1 (strIterType x) x t1 i ∧ h.IsStrIter i2 (strIterType y) y t2 i) where
  mem := by simp
  obj := fun i h st c hc => by
    obtain ⟨hz, hTI, ⟨a, b, hTO⟩, ⟨o1, e1, _, d1⟩, ⟨o2, e2, _, d2⟩⟩ := st
    have e' : c = z ∨ c = TI ∨ c = TO ∨ c = i1 ∨ c = i2 := by simpa using hc
    rcases e' with q | q | q | q | q
    · rw [q]; exact ⟨_, hz, fun v q => nomatch q⟩
    · rw [q]; exact ⟨_, hTI, fun v q => nomatch q⟩
    · rw [q]; exact ⟨_, hTO, fun v q => nomatch q⟩
    · rw [q]; exact ⟨o1, e1, fun v q => by rw [d1] at q; cases q⟩
    · rw [q]; exact ⟨o2, e2, fun v q => by rw [d2] at q; cases q⟩
  keep := fun i h h' st k => by
    obtain ⟨hz, hTI, ⟨a, b, hTO⟩, ⟨o1, e1, r1⟩, ⟨o2, e2, r2⟩⟩ := st
    exact ⟨k z (by simp) _ hz, k TI (by simp) _ hTI, ⟨a, b, k TO (by simp) _ hTO⟩, ⟨o1, k i1 (by simp) o1 e1, r1⟩, ⟨o2, k i2 (by simp) o2 e2, r2⟩⟩
  item := by
    intro X hP hw hK hc i pins s σ H E I hf st hg
    subst hP hw hK
    obtain ⟨hz, hTI, ⟨a0, b0, hTO⟩, h1, h2⟩ := st
    obtain ⟨hlt1, hlt2⟩ := hg
    have hzl : z < s.heap.objs.size := Heap.lt_size hz
    have hd0 : X.A.in1.handled = none := I.ok.hd hc
    refine wpAny_pyNext_zipD2_item S (Draws.text hd0 i1 x t1) (Draws.text hd0 i2 y t2) hz hTI hTO h1 h2 hlt1 hlt2 fun x1 x2 h' tk p1 p2 z' TO' h1' h2' hT hsz hk => ?_
    obtain ⟨c, u, hx, rfl⟩ := p1
    obtain ⟨d, u2, hy, rfl⟩ := p2
    refine ⟨_, rfl, wpAny_letOwnedTupleGo_zip (s := { s with heap := h', toks := tk }) z' fun h'' z'' sb => ?_⟩
    have hT2 : h''.get? s.heap.objs.size = some { cls := .type "tuple", data := .seq #[.str ⟨#[c]⟩ u, .str ⟨#[d]⟩ u2] } := (sb.2 _ (Nat.ne_of_gt hzl)).trans hT
    have new : ObjOk X.prog X.w (upd H s.heap.objs.size (.tup [.str ⟨#[c]⟩, .str ⟨#[d]⟩])) h'' s.heap.objs.size (.tup [.str ⟨#[c]⟩, .str ⟨#[d]⟩]) :=
      ⟨by show 2 ≤ sizeLine; decide, [.str ⟨#[c]⟩ u, .str ⟨#[d]⟩ u2], .cons ⟨_, rfl⟩ (.cons ⟨_, rfl⟩ .nil), ⟨_, hT2, rfl, _, rfl⟩⟩
    have I1 : Inv X pins σ (upd H s.heap.objs.size (.tup [.str ⟨#[c]⟩, .str ⟨#[d]⟩])) { s with heap := h'', toks := tk } :=
      I.turnedNew (ch := [z, TI, TO, i1, i2]) (fun c o hb q => (sb.2 c (fun q' => hb (by simp [q']))).trans (hk c o (fun q' => hb (by simp [q'])) (fun q' => hb (by simp [q'])) (fun q' => hb (by simp [q'])) (fun q' => hb (by simp [q'])) q)) hf (Nat.le_refl _) new
    refine ⟨.ref s.heap.objs.size, _, I1, rfl, ⟨_, c, d, rfl, I.hok.fresh (Nat.le_refl _), rfl, hx, hy⟩, ⟨z'', ?_, ⟨.str ⟨#[c]⟩ u, .str ⟨#[d]⟩ u2, ?_⟩, ?_, ?_⟩, fun c hcm => ?_⟩
    · exact (sb.2 _ S.TIz).trans (hk _ _ S.TIz S.TITO S.TIi1 S.TIi2 hTI)
    · exact (sb.2 _ S.TOz).trans TO'
    · obtain ⟨o, q, r⟩ := h1'
      exact ⟨o, (sb.2 _ (Ne.symm S.zi1)).trans q, r⟩
    · obtain ⟨o, q, r⟩ := h2'
      exact ⟨o, (sb.2 _ (Ne.symm S.zi2)).trans q, r⟩
    · have hlt : c < s.heap.objs.size := by
        have e' : c = z ∨ c = TI ∨ c = TO ∨ c = i1 ∨ c = i2 := by simpa using hcm
        rcases e' with q | q | q | q | q
        · rw [q]; exact hzl
        · rw [q]; exact Heap.lt_size hTI
        · rw [q]; exact Heap.lt_size hTO
        · rw [q]; obtain ⟨_, e1, _⟩ := h1; exact Heap.lt_size e1
        · rw [q]; obtain ⟨_, e2, _⟩ := h2; exact Heap.lt_size e2
      rw [upd_ne (Nat.ne_of_lt hlt)]
      exact (hf c hcm).1
  done := by
    intro X hP hw hK hc i pins s σ H E I hf st hg
    subst hP hw hK
    obtain ⟨hz, hTI, ⟨a0, b0, hTO⟩, h1, h2⟩ := st
    obtain ⟨l1, l2, hend⟩ := hg
    have hd0 : X.A.in1.handled = none := I.ok.hd hc
    exact wpAny_pyNext_zipD2_end S (Draws.text hd0 i1 x t1) (Draws.text hd0 i2 y t2) hz hTI hTO h1 h2 l1 l2 hend fun h' tk hk => ⟨rfl, I.turnedL (t' := tk) (ch := [z, TI, TO, i1, i2]) (fun c o hb q =>
      hk c o (fun q' => hb (by simp [q'])) (fun q' => hb (by simp [q'])) (fun q' => hb (by simp [q'])) (fun q' => hb (by simp [q'])) q) hf⟩
  self := fun A i s Q E st h => wpAny_pyIter_zip st.1 h
def iZipS (ta : TA) : TI := fun σ H R => ta σ H fun vs H1 => ∃ x y, vs = [.str x, .str y] ∧ R (ItzS x y) H1
theorem pi_zipS {X : Cx} {e e2 : Expr} {ta : TA} {p pos tpos : Pos} {elts : List Expr} {kk : Nat} (hg : Gl X "zip") (hm : X.mg "zip" = none) (ha : PA X [e, e2] ta)
    (hs : starEach [e, e2] X.env = (false, eval e X.env) :: starEach [e2] X.env := by rfl) (hpl : (backTo pos (starEach [e2] X.env)).any (·.1) = false := by rfl) :
    PI X (.Tuple elts kk tpos) (.Call (.Name "zip" p) [e, e2] [] pos) (iZipS ta) := by
  refine ⟨fun pins s σ H R I h => ?_⟩
  refine Call_ (ld_blt I hg hm PyProof.Rows.boot_zip (PyProof.Rows.callWith_type1 (thn (ha.run pos pins s σ H _ I h) fun us s1 ⟨vs, H1, I1, r1, q1⟩ => ?_) hs hpl))
  obtain ⟨x, y, rfl, q⟩ := q1
  cases r1 with
  | cons r rr =>
    cases rr with
    | cons r' rr =>
      cases rr
      obtain ⟨t1, rfl⟩ := r
      obtain ⟨t2, rfl⟩ := r'
      have fresh5 : ∀ c, c ∈ [s1.heap.objs.size + 4, s1.heap.objs.size + 2, s1.heap.objs.size + 3, s1.heap.objs.size, s1.heap.objs.size + 1] → FpOk X pins H1 c := fun c hcm => by
        have e' : c = s1.heap.objs.size + 4 ∨ c = s1.heap.objs.size + 2 ∨ c = s1.heap.objs.size + 3 ∨ c = s1.heap.objs.size ∨ c = s1.heap.objs.size + 1 := by simpa using hcm
        have hle : s1.heap.objs.size ≤ c := by
          rcases e' with z | z | z | z | z
          · rw [z]; exact Nat.le_add_right _ _
          · rw [z]; exact Nat.le_add_right _ _
          · rw [z]; exact Nat.le_add_right _ _
          · rw [z]; exact Nat.le_refl _
          · rw [z]; exact Nat.le_add_right _ _
        exact I1.fpOk hle (I1.hok.fresh hle)
      refine zip_begins2 (begins_text x t1) (begins_text y t2) trivial trivial fun h' hz hTI hTO g1 g2 hsz hk => wpAny_pyIter_zip hz ?_
      have I2 : Inv X pins σ H1 { s1 with heap := h' } := I1.kept (t' := s1.toks) hk
      refine ⟨s1.heap.objs.size + 4, [s1.heap.objs.size + 4, s1.heap.objs.size + 2, s1.heap.objs.size + 3, s1.heap.objs.size, s1.heap.objs.size + 1], _, _, H1, rfl, I2, turn_zipS x y t1 t2 ?_, ⟨hz, hTI, ⟨_, _, hTO⟩, ⟨_, g1, rfl, rfl⟩, ⟨_, g2, rfl, rfl⟩⟩, fresh5, q⟩
      constructor <;> simp
theorem for_zipS {x y : Str} {g : TG} {tb : TS} {D : Ends} {σ : L2.St} {H : Hp} (n : Nat) (hn : n = min x.cps.size y.cps.size) (Pv : Nat → L2.St → Hp → Prop) (h0 : Pv 0 σ H)
    (hs : ∀ (i c d : Nat) (T : Addr) (σ : L2.St) (H : Hp), i < n → x.cps[i]? = some c → y.cps[i]? = some d → Pv i σ H → H T = none → g (.ref T) σ (upd H T (.tup [.str ⟨#[c]⟩, .str ⟨#[d]⟩])) fun σ2 H2 => tb { D with nx := Pv (i + 1), ct := Pv (i + 1), bk := D.nx } σ2 H2) (hd : ∀ σ H, Pv n σ H → D.nx σ H) :
    ∃ W : Nat → Nat → L2.St → Hp → Prop, (∃ m, W 0 m σ H) ∧ ∀ i m σ H, W i m σ H →
      ((ItzS x y).stop i H ∧ D.nx σ H) ∨ ((ItzS x y).go i H ∧ ∃ N : L2.St → Hp → Prop, (∀ σ' H', N σ' H' → ∃ m', m' < m ∧ W (i + 1) m' σ' H') ∧ ∀ v H', (ItzS x y).yld i H v H' → g v σ H' fun σ2 H2 => tb { D with nx := N, ct := N, bk := D.nx } σ2 H2) := by
  refine ⟨fun i m σ H => m = n - i ∧ i ≤ n ∧ Pv i σ H, ⟨n, rfl, Nat.zero_le _, h0⟩, fun i m σ H => ?_⟩
  rintro ⟨rfl, hi, p⟩
  by_cases hlt : i < n
  · refine .inr ⟨⟨by omega, by omega⟩, Pv (i + 1), fun σ' H' p' => ⟨n - (i + 1), by omega, rfl, hlt, p'⟩, fun v H' y => ?_⟩
    obtain ⟨T, c, d, rfl, hT, rfl, f1, f2⟩ := y
    exact hs i c d T σ H hlt f1 f2 p hT
  · obtain rfl : i = n := by omega
    exact .inl ⟨⟨by omega, by omega, by omega⟩, hd σ H p⟩
theorem for_enumL {K : PySem.W.Frag} {a : Addr} {xs : List V} {g : TG} {tb : TS} {D : Ends} {σ : L2.St} {H : Hp} (Pv : Nat → L2.St → Hp → Prop) (h0 : Pv 0 σ H) (hq : ∀ i σ H, Pv i σ H → SqL K H a xs)
    (hs : ∀ (i : Nat) (x : V) (T : Addr) (σ : L2.St) (H : Hp), xs[i]? = some x → Pv i σ H → H T = none → g (.ref T) σ (upd H T (.tup [.int (i : Nat), x])) fun σ2 H2 => tb { D with nx := Pv (i + 1), ct := Pv (i + 1), bk := D.nx } σ2 H2) (hd : ∀ σ H, Pv xs.length σ H → D.nx σ H) :
    ∃ W : Nat → Nat → L2.St → Hp → Prop, (∃ m, W 0 m σ H) ∧ ∀ i m σ H, W i m σ H →
      ((Ite K a).stop i H ∧ D.nx σ H) ∨ ((Ite K a).go i H ∧ ∃ N : L2.St → Hp → Prop, (∀ σ' H', N σ' H' → ∃ m', m' < m ∧ W (i + 1) m' σ' H') ∧ ∀ v H', (Ite K a).yld i H v H' → g v σ H' fun σ2 H2 => tb { D with nx := N, ct := N, bk := D.nx } σ2 H2) := by
  refine ⟨fun i m σ H => m = xs.length - i ∧ i ≤ xs.length ∧ Pv i σ H, ⟨xs.length, rfl, Nat.zero_le _, h0⟩, fun i m σ H => ?_⟩
  rintro ⟨rfl, hi, p⟩
  have qx := hq i σ H p
  by_cases hlt : i < xs.length
  · refine .inr ⟨⟨xs, _, qx, List.getElem?_eq_getElem hlt⟩, Pv (i + 1), fun σ' H' p' => ⟨xs.length - (i + 1), by omega, rfl, hlt, p'⟩, fun v H' y => ?_⟩
    obtain ⟨T, x', rfl, hT, rfl, f1⟩ := y
    exact hs i x' T σ H (f1 xs qx) p hT
  · obtain rfl : i = xs.length := by omega
    exact .inl ⟨⟨xs, qx, Nat.le_refl _⟩, hd σ H p⟩
end RJ

set_option maxRecDepth 100000
set_option maxHeartbeats 2000000
namespace RO
open PySem PySem.Spec PyProof.Rows L2 ItX
/-! ### a def whose promise knows how large the heap was -/
structure FnN (P : Program) (w : World) (K : PySem.W.Frag) (mg : Str → Option Value) (base : Heap) (CX : CXT) (k : Nat) (f : Addr) (fd : FuncData) (ps : List Str) (sp : Nat → Sp) : Prop where
  len : ∀ n vs H Q E, sp n vs H Q E → vs.length = ps.length
  run : ∀ (A : Around) (outer : List Env) (s : Shared) (H : Hp) (args : Args) (us : List Value) (vs : List V) (Q : VK) (E : XK), Room k A → Env0 P w K mg base A outer s H → BindsTo s fd args (ps.zip us) → Vals vs us → sp s.heap.objs.size vs H Q E →
    codeAny (model P w) A (.call (.ref f) args) (CR CX outer P w H s Q E) s
theorem fn_ofN {CX : CXT} {P : Program} {w : World} {K : PySem.W.Frag} {mg : Str → Option Value} {base : Heap} {k : Nat} {f : Addr} {name qual : Str} {params : Arguments} {body : List Stmt} {scope : Scope} {dV kV doc pm cdv ct oc : Value} {an od : Option Addr}
    {osl : Array (Option Value)} {N ps : List Str} {sp : Nat → Sp} (lk : K.lookup f = some ⟨oc, od, .func (PySem.W.fnOf name qual params body scope dV kV doc pm an cdv ct), osl⟩) (hcd : PySem.W.codeIn K cdv qual = true) (S : FnScope N ps scope)
    (len : ∀ n vs H Q E, sp n vs H Q E → vs.length = ps.length)
    (hbody : ∀ (A : Around) (outer : List Env) (s : Shared) (H : Hp) (vs : List V) (Q : VK) (E : XK), Room k (A.deeper (envOfC qual scope s.heap.objs.size f cdv)) → sp s.heap.objs.size vs H Q E →
      ∃ t, PSs (cxOf CX P w K mg base N qual scope f cdv A outer s H E) body t ∧ t { nx := fun _ H' => Q .non H', rt := Q } (start N vs) H) :
    FnN P w K mg base CX (k + 1) f (PySem.W.fnOf name qual params body scope dV kV doc pm an cdv ct) ps sp := by
  refine ⟨len, fun A outer s H args us vs Q E hr e0 hb r hsp => ?_⟩
  have hl := len _ _ _ _ _ hsp
  have KX : K.In s.heap := e0.mod.kin.keeps fun b o e => (e0.bs b o e).1
  have lim : s.heap.NoLimit := e0.mod.nolimit.keeps fun b o e => (e0.bs b o e).1
  have hkind : ∀ y ∈ ps.zip us, scope.names.lookup y.1 = some .local ∨ (scope.names.lookup y.1 = some .cell ∧ ((cellsFrom (s.heap.objs.size + 1) scope.names []).lookup y.1).isSome = true) := fun ⟨n, v⟩ hy => by
    rcases S.par n (List.of_mem_zip hy).1 with q | q
    · exact .inl q
    · exact .inr ⟨q, PySem.W.cellsFrom_some _ _ _ (.inl q)⟩
  refine codeAny_call_function hr.depth (KX _ _ lk) rfl S.co S.gen rfl (PySem.W.codeRec_of KX hcd) (hb _ _ _ _ ?_)
  refine wpAny_newFunctionEnv_cells S.kind hkind fun env he s1 x => ?_
  subst he
  refine ⟨lim.keeps x.toInCall.keep, codeAny_func ?_⟩
  obtain ⟨t, ht, hq⟩ := hbody A outer s H vs Q E (hr.deeper _) hsp
  have I : Inv (cxOf CX P w K mg base N qual scope f cdv A outer s H E) [] (start N vs) H s1 := inv_start S hr.hd e0 hl r x
  refine wpAny_mono (ht.run [] s1 (start N vs) H _ I hq) (fun fl s' hs => ?_) fun e s' hs => hs
  have fin : ∀ {σ' : L2.St} {H' : Hp} {v : V} {u : Value}, Inv (cxOf CX P w K mg base N qual scope f cdv A outer s H E) [] σ' H' s' → RelV v u → Q v H' → CE outer P w H s Q u s' :=
    fun {σ' H' v u} J rv q => ⟨v, H', J.os, J.bare, J.base, J.hok, rv, q⟩
  cases fl with
  | ret u =>
    obtain ⟨v, σ', H', J, rv, q⟩ := hs
    exact fin J rv q
  | next =>
    obtain ⟨σ', H', J, q⟩ := hs
    exact fin (v := V.non) (u := Value.none) J rfl q
  | brk =>
    obtain ⟨_, _, _, q⟩ := hs
    exact False.elim q
  | cont =>
    obtain ⟨_, _, _, q⟩ := hs
    exact False.elim q
section
variable {P : Program} {w : World} {K : PySem.W.Frag} {mg : Str → Option Value} {base : Heap}
theorem fun_okN {x qual : Str} {st : Stmt} {f : Addr} {fd : FuncData} {N ps : List Str} {k : Nat} {sp : Nat → Sp} (F : Fun K x qual st f fd) (S : FnScope N ps (defScope st)) (len : ∀ n vs H Q E, sp n vs H Q E → vs.length = ps.length)
    (hbody : ∀ (cdv : Value) (A : Around) (outer : List Env) (s : Shared) (H : Hp) (vs : List V) (Q : VK) (E : XK), Room k (A.deeper (envOfC qual (defScope st) s.heap.objs.size f cdv)) → sp s.heap.objs.size vs H Q E →
      ∃ t, PSs (cxOf CX0 P w K mg base N qual (defScope st) f cdv A outer s H E).nox (defBody st) t ∧ t { nx := fun _ H' => Q .non H', rt := Q } (start N vs) H) : FnN P w K mg base CX0 (k + 1) f fd ps sp := by
  obtain ⟨oc, od, kV, doc, pm, an, cdv, ct, osl, rfl, lk, hcd⟩ := F.ex
  refine fn_ofN lk hcd S len fun A outer s H vs Q E hr hsp => ?_
  obtain ⟨t, h, q⟩ := hbody cdv A outer s H vs Q E hr hsp
  exact ⟨t, h.nox, q⟩
end
/-- __iter__ hands back a new iterator over the list in a field -/
def spIt (C : Addr) (fld : Str) (n : Nat) : Sp := fun vs H Q _ => ∃ (p dx l : Addr) (fs : List (Str × V)), vs = [.ref p] ∧ H p = some (.ins C dx fs) ∧ fs.lookup fld = some (.ref l) ∧ (∃ zs, H l = some (.lst zs)) ∧ ∀ it, H it = none → n ≤ it → Q (.ref it) (upd H it (ItO l it 0))
/-- what a class with such an __iter__ has -/
structure ItrC (X : Cx) (C fi : Addr) (fdI : FuncData) (fld : Str) (k : Nat) : Prop where
  it : PySem.W.findIn X.K (.ref C) "__iter__" = some (some (.ref fi))
  itF : PySem.W.isFn X.K (.ref fi) = true
  fn : FnN X.prog X.w X.K X.mg X.base CX0 k fi fdI ["self"] (spIt C fld)
  bi : Binds X.K fdI ["self"] []
section
variable {X : Cx} {pins : List (Addr × Obj)} {σ : L2.St} {H : Hp} {s : Shared} {A1 : Around} {C fi fl p dx l : Addr} {fdI fdL : FuncData} {fld : Str} {k : Nat} {fs : List (Str × V)} {zs : List V}
theorem env_sub (I : Inv X pins σ H s) (sb : Sub X k A1) : Env0 X.prog X.w X.K X.mg X.base A1 X.stack s H := by
  have e := I.env0
  exact ⟨by rw [sb.fr]; exact e.frames, e.mod, e.bs, e.bsz, e.funs, e.frf, e.hok, e.bare⟩
/-- iter(o) -/
theorem own_iter {Q : Value → Shared → Prop} (sb : Sub X k A1) (c : ItrC X C fi fdI fld k) (I : Inv X pins σ H s) (hp : H p = some (.ins C dx fs)) (hf : fs.lookup fld = some (.ref l)) (hl : H l = some (.lst zs))
    (h : ∀ it s', H it = none → s.heap.objs.size ≤ it → s'.heap.IsListIter it l 0 → s'.heap.get? it = some (GNX.itObj l 0) → Inv X pins σ H s' → Q (.ref it) s') : wpAny (model X.prog X.w) A1 (pyIter (.ref p)) Q X.xe s := by
  obtain ⟨mA, J, _⟩ := ins_get I.hok hp
  obtain ⟨od, J, _⟩ := J.look
  obtain ⟨m0, hF⟩ := I.fr
  refine PySem.W.owit_iter hF I.ok.mod.kin J c.it c.itF ?_
  have hsp : spIt C fld s.heap.objs.size [.ref p] H (fun v H' => ∃ it, v = .ref it ∧ H it = none ∧ s.heap.objs.size ≤ it ∧ H' = upd H it (ItO l it 0)) E0 := ⟨p, dx, l, fs, rfl, hp, hf, ⟨zs, hl⟩, fun it h1 h2 => ⟨it, rfl, h1, h2, rfl⟩⟩
  have r2 : Vals [V.ref p] [Value.ref p] := .cons rfl .nil
  refine wpAny_call (codeAny_mono (c.fn.run A1 X.stack s H ⟨[.ref p], []⟩ [.ref p] [.ref p] _ E0 sb.room (env_sub I sb) (by
    have := c.bi s [.ref p] I.kIn rfl
    simpa using this) r2 hsp) fun r s' hq => ?_)
  cases r with
  | error e => exact absurd hq (fun z => z.elim)
  | ok fl =>
    cases fl with
    | next => exact False.elim hq
    | brk => exact False.elim hq
    | cont => exact False.elim hq
    | ret u =>
      obtain ⟨v, H', I', rv, it, rfl, hn, hsz, rfl⟩ := I.after hq
      cases rv
      have eo := itO_get I' upd_same
      have I2 := inv_drop I' (show upd H it (ItO l it 0) it = some (.ext _) from upd_same)
      rw [dropH_upd hn] at I2
      have hT : s'.TypeIs (.ref it) "list_iterator" := ⟨_, eo, rfl⟩
      unfold PySem.W.OwitIt
      exact wpAny_specialOf (name := Str.ofString "__next__") hT slot_listiter_next.lookup (h it s' hn hsz ⟨_, eo, rfl, rfl⟩ eo I2)
/-- len(o) by an own __len__ that only tells -/
theorem own_len {Q : Value → Shared → Prop} {E' : Value → Shared → Prop} {sp : Sp} {m : Nat} (sb : Sub X k A1.in1) (hlen : PySem.W.findIn X.K (.ref C) "__len__" = some (some (.ref fl))) (hf : PySem.W.typeIn X.K (.ref fl) = some (.type "function")) (F : FnOk X.prog X.w X.K X.mg X.base CX0 k fl fdL ["self"] sp) (b : Binds X.K fdL ["self"] [])
    (I : Inv X pins σ H s) (hp : H p = some (.ins C dx fs)) (hm : m ≤ sizeLine) (hsp : sp [.ref p] H (fun v H' => v = .int (m : Int) ∧ H' = H) E0)
    (h : ∀ t s', Inv X pins σ H s' → Q (.int (m : Int) t) s') : wpAny (model X.prog X.w) A1 (call (.builtin "len") [.ref p]) Q E' s := by
  obtain ⟨mA, J, _⟩ := ins_get I.hok hp
  obtain ⟨od, J, _⟩ := J.look
  refine Calls.call_function_entry kind_len plain_len entry_len (args_len1 _) ?_
  unfold Builtin.«len»
  refine wpAny_bind (m := oneArg "len" _) (wpAny_pure ?_)
  have r2 : Vals [V.ref p] [Value.ref p] := .cons rfl .nil
  refine wpAny_bind (m := callSpecial? (.ref p) (PySem.Str.ofString "__len__")) (PySem.W.special_fn I.kIn J hlen hf ?_)
  refine wpAny_call (codeAny_mono (F.run A1.in1 X.stack s H ⟨[.ref p], []⟩ [.ref p] [.ref p] _ E0 sb.room (env_sub I sb) (by
    have := b s [.ref p] I.kIn rfl
    simpa using this) r2 hsp) fun r s' hq => ?_)
  cases r with
  | error e => exact absurd hq (fun z => z.elim)
  | ok fl =>
    cases fl with
    | next => exact False.elim hq
    | brk => exact False.elim hq
    | cont => exact False.elim hq
    | ret u =>
      obtain ⟨v, H', I', rv, rfl, rfl⟩ := I.after hq
      obtain ⟨t, rfl⟩ := rv
      have hs : sizeLine = 16777216 := sizeLine_eq
      refine wpAny_bind (wpAny_holding (wpAny_pure ?_))
      refine wpAny_bind (wpAny_letGo ?_)
      show wpAny _ _ (if ((m : Nat) : Int) < 0 then _ else _) _ _ _
      rw [if_neg (by omega)]
      show wpAny _ _ (if ((m : Nat) : Int) ≥ 2 ^ 63 then _ else _) _ _ _
      rw [if_neg (by omega)]
      exact wpAny_bind (wpAny_mkInt (wpAny_pure ⟨_, rfl, h _ _ (I'.tok _)⟩))
end
section
variable {X : Cx} {C fi fl : Addr} {fdI fdL : FuncData} {fld : Str} {k : Nat}
/-! ### for x in o -/
def iOwnL (C : Addr) (fld : Str) (K : PySem.W.Frag) (te : TE) : TI := fun σ H R => te σ H fun v H1 => ∃ (p dx l : Addr) (fs : List (Str × V)) (zs : List V), v = .ref p ∧ H1 p = some (.ins C dx fs) ∧ fs.lookup fld = some (.ref l) ∧ H1 l = some (.lst zs) ∧ R (Itl K l) H1
theorem pi_ownL {tg e : Expr} {te : TE} (c : ItrC X C fi fdI fld k) (hr : Room k X.A) (he : PE X e te) : PI X tg e (iOwnL C fld X.K te) := by
  refine ⟨fun pins s σ H R I h => ?_⟩
  refine thn (he.run pins s σ H _ I h) fun v s1 ⟨y, H1, I1, ry, p, dx, l, fs, zs, ey, hp, hf, hl, q⟩ => ?_
  subst ey
  cases ry
  refine own_iter (⟨hr, rfl⟩ : Sub X k X.A) c I1 hp hf hl fun it s' hn hsz hli eo I' => ?_
  exact ⟨it, [it], _, _, H1, rfl, I', turn_list l it, hli, fun b hb => by rw [List.mem_singleton.mp hb]; exact I1.fpOk hsz hn, q⟩
/-! ### len(o) -/
theorem call_lenOwn {sp : Sp} (hlen : PySem.W.findIn X.K (.ref C) "__len__" = some (some (.ref fl))) (hf : PySem.W.typeIn X.K (.ref fl) = some (.type "function")) (F : FnOk X.prog X.w X.K X.mg X.base CX0 k fl fdL ["self"] sp) (b : Binds X.K fdL ["self"] []) (hr : Room (k + 1) X.A) :
    CallR X (.builtin "len") (fun xs H Q => ∃ (p dx : Addr) (fs : List (Str × V)) (m : Nat), xs = [.ref p] ∧ H p = some (.ins C dx fs) ∧ m ≤ sizeLine ∧ sp [.ref p] H (fun v H' => v = .int (m : Int) ∧ H' = H) E0 ∧ Q (.int (m : Int)) H) := by
  intro pins s σ H xs us Q I r h
  obtain ⟨p, dx, fs, m, rfl, hp, hm, hsp, q⟩ := h
  obtain ⟨u, rfl, ru⟩ := vals1 r
  obtain rfl : u = Value.ref p := ru
  exact own_len (Sub.in1 (⟨hr, rfl⟩ : Sub X (k + 1) X.A)) hlen hf F b I hp hm hsp fun t s' I' => ⟨.int (m : Int), H, I', ⟨_, rfl⟩, q⟩
end
end RO

set_option maxRecDepth 100000
set_option maxHeartbeats 2000000
namespace RO
open PySem PySem.Spec PyProof.Rows L2 ItX
/-! ### list(o) -/
/-- what a class with an own __iter__ and __len__ has -/
structure LenC (X : Cx) (C fl : Addr) (fdL : FuncData) (sp : Sp) (k : Nat) : Prop where
  at_ : PySem.W.findIn X.K (.ref C) "__len__" = some (some (.ref fl))
  ty : PySem.W.typeIn X.K (.ref fl) = some (.type "function")
  fn : FnOk X.prog X.w X.K X.mg X.base CX0 k fl fdL ["self"] sp
  bi : Binds X.K fdL ["self"] []
section
variable {X : Cx} {pins : List (Addr × Obj)} {σ : L2.St} {H : Hp} {s : Shared} {A1 : Around} {C fi fl p dx l q it : Addr} {fdI fdL : FuncData} {fld : Str} {k : Nat} {fs : List (Str × V)} {zs : List V}
theorem ext_loop {Rs : Result → Shared → Prop} (hh : A1.in1.handled = none) (nql : l ≠ q) (hl : H l = some (.lst zs)) (hsz : zs.length < sizeLine) (hq0 : H q = some (.lst []))
    (hdone : ∀ s, Inv X pins σ (upd H q (.lst zs)) s → Rs (.ok (.ret .none)) s) :
    ∀ (n i : Nat) (s : Shared), n + i = zs.length → Inv X pins σ (upd H q (.lst (zs.take i))) s → s.heap.IsListIter it l i → FpOk X pins H it →
      codeAny (model X.prog X.w) A1 (.builtin "list.extend.loop" ⟨[.ref q, .ref it, .none], []⟩) Rs s := by
  intro n
  induction n with
  | zero =>
    intro i s hi I st fp
    refine codeAny_builtin PySem.F.entry_extend_loop ?_
    rw [Around.under_plainId PySem.F.plain_extend_loop _]
    show wpAny _ A1.in1 (pyNext (.ref it) >>= _) _ _ s
    have hl' : upd H q (.lst (zs.take i)) l = some (.lst zs) := by rw [upd_ne nql]; exact hl
    obtain ⟨its, rv, pl, _⟩ := I.list (SqL.of (K := X.K) hl')
    have hlen := rv.length
    obtain ⟨f0, f1, f2, f3, f4, f5⟩ := fp
    have niq : it ≠ q := fun e => by rw [e, hq0] at f0; cases f0
    have e1 : zs.take i = zs := List.take_of_length_le (by omega)
    refine wpAny_bind (wpAny_pyNext_list_end hh st pl.isList (by simp; omega) fun h' eb => ?_)
    rw [e1] at I
    have I' : Inv X pins σ (upd H q (.lst zs)) { s with heap := h' } := I.turned (t' := s.toks) (fun b o hb e => eb b o hb e) (by rw [upd_ne niq]; exact f0) f1 f3 f4 f5
    exact wpAny_pure (hdone _ I')
  | succ n ih =>
    intro i s hi I st fp
    refine codeAny_builtin PySem.F.entry_extend_loop ?_
    rw [Around.under_plainId PySem.F.plain_extend_loop _]
    show wpAny _ A1.in1 (pyNext (.ref it) >>= _) _ _ s
    have hl' : upd H q (.lst (zs.take i)) l = some (.lst zs) := by rw [upd_ne nql]; exact hl
    obtain ⟨its, rv, pl, _⟩ := I.list (SqL.of (K := X.K) hl')
    have hlen := rv.length
    obtain ⟨f0, f1, f2, f3, f4, f5⟩ := id fp
    have niq : it ≠ q := fun e => by rw [e, hq0] at f0; cases f0
    have hv : zs[i]? = some (zs[i]'(by omega)) := List.getElem?_eq_getElem _
    obtain ⟨u, hu, ru⟩ := rv.get hv
    refine wpAny_bind (wpAny_pyNext_list_item st pl.isList (x := u) (by simpa using hu) fun h' st' sb => ?_)
    have I1 : Inv X pins σ (upd H q (.lst (zs.take i))) { s with heap := h' } := I.turned (t' := s.toks) (fun b o hb e => (sb.2 b hb).trans e) (by rw [upd_ne niq]; exact f0) f1 f3 f4 f5
    show wpAny _ A1.in1 (updateSeq q (·.push u) >>= _) _ _ _
    obtain ⟨z, its2, kk, r2, hl2, e2⟩ := I1.lstM upd_same
    refine wpAny_bind (wpAny_updateSeq e2 rfl (wpAny_pure ⟨plainId_quiet PySem.F.plain_extend_loop _, ?_⟩) (by rw [List.size_toArray, ← hl2, List.length_take]; omega) (by show (its2.toArray.push u).size ≤ sizeLine + 1; rw [Array.size_push, List.size_toArray, ← hl2, List.length_take]; omega))
    have e3 : zs.take (i + 1) = zs.take i ++ [zs[i]'(by omega)] := by rw [List.take_add_one, hv]; rfl
    have I2 := I1.lset (f := (·.push u)) (its' := its2 ++ [u]) (ys := zs.take (i + 1)) (t' := s.toks) upd_same e2 (by simp) (by rw [e3]; exact r2.append (.cons ru .nil)) (by rw [List.length_take]; omega)
    rw [upd_upd] at I2
    refine ih (i + 1) _ (by omega) I2 (st'.at fun o e => ?_) fp
    exact (Heap.get?_update_other _ _ (Ne.symm niq)).trans e
theorem own_extendL {Rs : Result → Shared → Prop} {sp : Sp} {m : Nat} (sb : Sub X (k + 1) A1.in1) (hh : A1.in1.handled = none) (ci : ItrC X C fi fdI fld k) (cl : LenC X C fl fdL sp k) (I : Inv X pins σ H s) (hp : H p = some (.ins C dx fs)) (hf : fs.lookup fld = some (.ref l)) (hl : H l = some (.lst zs)) (hsz : zs.length < sizeLine)
    (hm : m ≤ sizeLine) (hsp : sp [.ref p] H (fun v H' => v = .int (m : Int) ∧ H' = H) E0) (hq : H q = some (.lst [])) (nql : l ≠ q) (hdone : ∀ s, Inv X pins σ (upd H q (.lst zs)) s → Rs (.ok (.ret .none)) s) (herr : ∀ e s, X.xe e s → Rs (.error e) s) :
    wpAny (model X.prog X.w) A1.in1 (Builtin.List.listExtendWith (.ref q) (.ref p) .none)
      (fun fin s' => match fin with | .done f => Rs (.ok f) s' | .again c' => c'.quiet = true ∧ codeAny (model X.prog X.w) A1 c' Rs s') (fun e s' => Rs (.error e) s') s := by
  have hne : q ≠ p := ne_of hq hp (fun z => nomatch z)
  obtain ⟨mA, J, _⟩ := ins_get I.hok hp
  obtain ⟨od, J, _⟩ := J.look
  unfold Builtin.List.listExtendWith
  refine wpAny_bind (J.type.here ?_)
  have h1 : Builtin.List.listSameRef (.ref q) (.ref p) = false := by simp [Builtin.List.listSameRef, hne]
  have h2 : (Value.ref C == Value.type "list") = false := rfl
  have h3 : (Value.ref C == Value.type "tuple") = false := rfl
  simp only [h1, h2, h3, Bool.or_false, Bool.false_eq_true, if_false]
  refine wpAny_bind (wpAny_mono (own_iter (Q := fun v s' => ∃ it, v = .ref it ∧ H it = none ∧ s.heap.objs.size ≤ it ∧ s'.heap.IsListIter it l 0 ∧ s'.heap.get? it = some (GNX.itObj l 0) ∧ Inv X pins σ H s') (sb.mono (Nat.le_succ k)) ci I hp hf hl fun it s' a b c e d => ⟨it, rfl, a, b, c, e, d⟩) (fun v s' hv => ?_) fun e s' he => herr e s' he)
  obtain ⟨it, rfl, hn, hge, st, eo, I'⟩ := hv
  have fp : FpOk X pins H it := I.fpOk hge hn
  have niq : it ≠ q := fun e => by rw [e, hq] at hn; cases hn
  have hint : wpAny (model X.prog X.w) A1.in1 (Builtin.List.listLengthHint (.ref p)) (fun b s2 => Inv X pins σ H s2 ∧ s2.heap.IsListIter it l 0) (fun e s' => Rs (.error e) s') s' := by
    obtain ⟨mA', J', _⟩ := ins_get I'.hok hp
    obtain ⟨od', J', _⟩ := J'.look
    have IP : Inv X ((it, GNX.itObj l 0) :: pins) σ H s' := I'.pins_of fun r hr => by
      rcases List.mem_cons.mp hr with e | hr
      · rw [e]
        exact ⟨eo, hn, fp.2.1, fp.2.2.1, fun v z => by cases z⟩
      · exact I'.pin r (List.mem_append_right _ hr)
    unfold Builtin.List.listLengthHint
    refine wpAny_bind (wpAny_bind (J'.type.here ((PySem.W.looks_findIn I'.kIn cl.at_).here ?_)))
    refine PySem.W.KFB.if_not rfl ?_
    refine PySem.W.KFB.if_so rfl ?_
    refine wpAny_bind (wpAny_rule ?_)
    refine wpAny_bind (wpAny_attempt ?_)
    refine wpAny_mono (own_len (Q := fun v s2 => ∃ t, v = .int (m : Int) t ∧ Inv X ((it, GNX.itObj l 0) :: pins) σ H s2) (E' := fun _ _ => False) (Sub.in1 sb) cl.at_ cl.ty cl.fn cl.bi IP hp hm hsp fun t s2 h => ⟨t, rfl, h⟩) (fun v s2 hv => ?_) (fun e s2 he => he.elim)
    obtain ⟨t, rfl, I2⟩ := hv
    refine wpAny_bind (m := asInt? (.int (m : Int) t)) (wpAny_pure ?_)
    refine PySem.W.KFB.if_not (notLongL (by rw [Int.toNat_natCast]; exact hm)) ?_
    have eo2 := (I2.pin (it, GNX.itObj l 0) (List.mem_append_right _ List.mem_cons_self)).1
    exact wpAny_pure ⟨I2.pins_of fun r hr => I2.pin r (List.mem_append_right _ (List.mem_cons_of_mem _ hr)), _, eo2, rfl, rfl⟩
  refine wpAny_bind (wpAny_holding (wpAny_mono hint (fun room s2 hr => ?_) fun _ _ z => z))
  obtain ⟨I2, st2⟩ := hr
  have hupd : upd H q (.lst (zs.take 0)) = H := by
    funext b
    by_cases hb : b = q
    · rw [hb, upd_same, hq]; rfl
    · rw [upd_ne hb]
  obtain ⟨z, its, k3, r3, hl3, e3⟩ := I2.lstM hq
  cases r3
  refine wpAny_ite_split (fun _ => ?_) (fun _ => wpAny_pure ⟨plainId_quiet PySem.F.plain_extend_loop _, ext_loop hh nql hl hsz hq hdone zs.length 0 s2 rfl (by rw [hupd]; exact I2) st2 fp⟩)
  refine wpAny_bind (wpAny_rule ?_)
  refine wpAny_bind ?_
  show wpAny _ _ (updateSeq q (·.push .none) >>= fun _ => updateSeq q (·.pop)) _ _ _
  refine wpAny_bind (wpAny_updateSeq e3 rfl ?_)
  have I4 := I2.lset (f := (·.push Value.none)) (its' := [Value.none]) (ys := [.non]) (t' := s2.toks) hq e3 (by simp) (.cons rfl .nil) (by rw [List.length_singleton, sizeLine_eq]; decide)
  obtain ⟨z4, its4, k4, r4, hl4, e4⟩ := I4.lstM upd_same
  obtain ⟨u4, rfl, ru4⟩ := r4.one
  refine wpAny_updateSeq e4 rfl ?_ (by show 1 ≤ sizeLine; rw [sizeLine_eq]; decide) (by show 0 ≤ sizeLine + 1; exact Nat.zero_le _)
  have I5 := I4.lset (f := (·.pop)) (its := [u4]) (its' := []) (ys := []) (t' := s2.toks) upd_same e4 (by rfl) .nil (Nat.zero_le _)
  rw [upd_upd] at I5
  refine wpAny_pure ⟨plainId_quiet PySem.F.plain_extend_loop _, ext_loop hh nql hl hsz hq hdone zs.length 0 _ rfl I5 ?_ fp⟩
  exact (st2.at fun o e => (Heap.get?_update_other _ _ (Ne.symm niq)).trans e).at fun o e => (Heap.get?_update_other _ _ (Ne.symm niq)).trans e
/-- list(o): a new list of what the list in the field holds -/
theorem call_listOwnL {sp : Sp} (ci : ItrC X C fi fdI fld k) (cl : LenC X C fl fdL sp k) (hc : X.calm = true) (hr : Room (k + 3) X.A) :
    CallR X (.type "list") (fun xs H Q => ∃ (p dx l : Addr) (fs : List (Str × V)) (zs : List V) (m : Nat), xs = [.ref p] ∧ H p = some (.ins C dx fs) ∧ fs.lookup fld = some (.ref l) ∧ H l = some (.lst zs) ∧ zs.length ≤ 1000 ∧ m ≤ sizeLine ∧
      (∀ H', Same H H' → sp [.ref p] H' (fun v H'' => v = .int (m : Int) ∧ H'' = H') E0) ∧ ∀ q, H q = none → Q (.ref q) (upd H q (.lst zs))) := by
  intro pins s σ H xs us Q I rv h
  obtain ⟨p, dx, l, fs, zs, m, rfl, hp, hf, hl, hz, hm, hsp, hq⟩ := h
  obtain ⟨u, rfl, ru⟩ := rv.one
  cases ru
  have sb : Sub X (k + 1) X.A.in1.in1 := (Sub.in1 (Sub.in1 (⟨hr, rfl⟩ : Sub X (k + 3) X.A)))
  refine callType_codes (Q₁ := fun obj s₁ => obj = .ref s.heap.objs.size ∧ s₁ = { s with heap := s.heap.push { cls := .type "list", data := .seq #[] } }) PySem.F.called_list (PySem.F.typeCall_list_1 _) PySem.F.entry_list_init
    (code_list_new _ ⟨rfl, rfl⟩) fun obj s₁ h₁ => ?_
  obtain ⟨rfl, rfl⟩ := h₁
  have hS : (s.heap.push { cls := .type "list", data := .seq #[] }).get? s.heap.objs.size = some { cls := .type "list", data := .seq #[] } := Heap.get?_push_size _ rfl
  refine ⟨⟨_, hS, rfl⟩, PySem.F.args_list_init_2 _ _, ?_⟩
  have fr : H s.heap.objs.size = none := I.hok.fresh (Nat.le_refl _)
  have hq' := hq _ fr
  have I1 : Inv X pins σ (upd H s.heap.objs.size (.lst [])) { s with heap := s.heap.push { cls := .type "list", data := .seq #[] } } := I.lnew (its := []) (t' := s.toks) .nil (Nat.zero_le _)
  show wpAny _ _ (do let old ← Builtin.List.listItems (.ref s.heap.objs.size); Builtin.List.listUpdate (.ref s.heap.objs.size) (fun _ => #[]); letGo old.toList.reverse; Builtin.List.listExtendWith (.ref s.heap.objs.size) (.ref p) .none) _ _ _
  refine wpAny_bind ?_
  unfold Builtin.List.listItems
  refine wpAny_bind (wpAny_seqItems hS rfl (wpAny_pure ?_))
  show wpAny _ _ (updateSeq s.heap.objs.size (fun _ => #[]) >>= fun _ => letGo (#[] : Array Value).toList.reverse >>= fun _ => Builtin.List.listExtendWith (.ref s.heap.objs.size) (.ref p) .none) _ _ _
  refine wpAny_bind (wpAny_updateSeq hS rfl ?_)
  have I2 := I1.lset (f := fun _ => #[]) (its := []) (its' := []) (ys := []) (t' := s.toks) upd_same hS rfl .nil (Nat.zero_le _)
  rw [upd_upd] at I2
  refine wpAny_bind (wpAny_letGo ?_)
  have sH : Same H (upd H s.heap.objs.size (.lst [])) := fun b x e => by rw [upd_ne (ne_of_none e fr)]; exact e
  have nql : l ≠ s.heap.objs.size := ne_of_none hl fr
  refine own_extendL (A1 := X.A.in1) (Rs := wants (fun r s₂ => r = .none ∧ EP X pins σ Q (.ref s.heap.objs.size) s₂) X.xe) sb (I.ok.hd hc) ci cl I2 (sH _ _ hp) hf (sH _ _ hl) (Nat.lt_of_le_of_lt hz (by decide)) hm (hsp _ sH) upd_same nql
    (fun s' I' => ⟨rfl, .ref s.heap.objs.size, _, I', rfl, by rw [upd_upd]; exact hq'⟩) (fun e s' he => he)
end
end RO

set_option maxRecDepth 100000
set_option maxHeartbeats 2000000
namespace R6
open PySem PySem.Spec PyProof.Rows L2
/-! ### an own class made inside a try: __init__ may raise -/
section
variable {X : Cx} {CX : CXT} {k : Nat} {f C : Addr} {fd : FuncData} {ps : List Str} {ds : List Value} {dvs : List V} {sp : Sp} {E : L2.St → XK} {x : Str} {p pos : Pos} {e : Expr} {es : List Expr} {t : TA}
theorem run_makeS {pins : List (Addr × Obj)} {σ : L2.St} {H : Hp} {s : Shared} {Q : VK} {us : List Value} {vs : List V} (M : Mk X.K C f) (F : FnOk X.prog X.w X.K X.mg X.base CX k f fd ps sp) (hr : Room (k + 1) X.A) (hb : Binds X.K fd ps ds) (hd : Vals dvs ds)
    (hx : PassesAt CX X σ (E σ)) (I : Inv X pins σ H s) (r : Vals vs us)
    (h : ∀ x dx, H x = none → H dx = none → dx ≠ x → sp (.ref x :: (vs ++ dvs)) (upd (upd H dx (.own x)) x (.ins C dx [])) (fun v H2 => v = .non ∧ Q (.ref x) H2) (E σ)) :
    wpAny (model X.prog X.w) X.A (call (.ref C) us) (EP X pins σ Q) X.xe s := by
  have hq := h (s.heap.objs.size + 1) s.heap.objs.size (I.hok.fresh (Nat.le_succ _)) (I.hok.fresh (Nat.le_refl _)) (Nat.ne_of_lt (Nat.lt_succ_self _))
  have I2 := Inv.made (C := C) I
  have r2 : Vals (V.ref (s.heap.objs.size + 1) :: (vs ++ dvs)) (Value.ref (s.heap.objs.size + 1) :: (us ++ ds)) := .cons rfl (r.append hd)
  have hl : (Value.ref (s.heap.objs.size + 1) :: us ++ ds).length = ps.length := by
    have e := r2.length
    rw [F.len _ _ _ _ hq] at e
    exact e.symm
  refine wpAny_call (make_map (f := f) I.kIn M.makes M.init (beq_iff_eq.mp M.fn) (codeAny_mono (F.run _ X.stack _ _ ⟨Value.ref (s.heap.objs.size + 1) :: us, []⟩ (Value.ref (s.heap.objs.size + 1) :: (us ++ ds)) _ _ (E σ) (hr.make C us [])
    (I2.env0.make C us []) (hb _ (Value.ref (s.heap.objs.size + 1) :: us) I2.kIn hl) r2 hq) fun r s' hq' => ?_))
  cases r with
  | error e => exact hx pins _ _ e s' I2 hq'
  | ok fl =>
    cases fl with
    | ret u =>
      obtain ⟨v, H', I3, rv, ev, q3⟩ := I2.after hq'
      subst ev
      exact ⟨rv, ⟨V.ref (s.heap.objs.size + 1), H', I3, rfl, q3⟩⟩
    | next => exact False.elim hq'
    | brk => exact False.elim hq'
    | cont => exact False.elim hq'
def tMakeS (C : Addr) (sp : Sp) (dvs : List V) (E : L2.St → XK) (t : TA) : TE := fun σ H Q => t σ H fun vs H1 => ∀ x dx, H1 x = none → H1 dx = none → dx ≠ x → sp (.ref x :: (vs ++ dvs)) (upd (upd H1 dx (.own x)) x (.ins C dx [])) (fun v H2 => v = .non ∧ Q (.ref x) H2) (E σ)
theorem pe_makeS (M : Mk X.K C f) (F : FnOk X.prog X.w X.K X.mg X.base CX k f fd ps sp) (hr : Room (k + 1) X.A) (hg : Gl X x) (hm : X.mg x = some (.ref C)) (hb : Binds X.K fd ps ds) (hd : Vals dvs ds) (hx : ∀ σ, PassesAt CX X σ (E σ))
    (ha : PA X (e :: es) t) (hdb : (x == ("__debug__" : Str)) = false := by decide) (he : starEach (e :: es) X.env = (false, eval e X.env) :: starEach es X.env := by rfl) (hpl : (backTo pos (starEach es X.env)).any (·.1) = false := by rfl) :
    PE X (.Call (.Name x p) (e :: es) [] pos) (tMakeS C sp dvs E t) := by
  refine ⟨fun pins s σ H Q I h => ?_⟩
  refine wpAny_Call_Name_kw (ld_glob I hg hm ?_ hdb)
  refine PySem.W.callWith_K (h₀ := X.base) I.ok.mod.kin M.kp (thn (ha.run pos pins s σ H _ I h) fun us s1 ⟨vs, H1, I1, r, q⟩ => ⟨I1.kIn, ?_⟩) he hpl
  exact run_makeS M F hr hb hd (hx σ) I1 r q
end
end R6

set_option maxRecDepth 100000
set_option maxHeartbeats 4000000
/-! a list comprehension whose element may raise -/
namespace RC
open PySem PySem.Spec PyProof.Rows L2
section
variable {X : Cx} {E0 : XK} {C : Addr} {u : Value} {s' : Shared}
/-- what it wants, C untracked -/
abbrev WC (E0 : XK) (C : Addr) : WX := fun cls d _ H => E0 cls d H ∧ H C = none
/-- in the air of X, the names of a block at C -/
def XB (X : Cx) (E0 : XK) (C : Addr) (u : Value) (s' : Shared) : Prop := XE X (WC E0 C) u s' ∧ ∃ m, s'.heap.Ns C m
/-- noted at the frame of X -/
def XH (X : Cx) (E0 : XK) (C : Addr) (u : Value) (s' : Shared) : Prop :=
  ∃ (a : Addr) (B : Heap) (sI : Shared) (pins : List (Addr × Obj)) (σ : L2.St) (H : Hp) (cls : Value) (d : Option Addr), u = .ref a ∧ Inv X pins σ H sI ∧
    (∀ b o, sI.heap.get? b = some o → b ∉ frs X.stack → B.get? b = some o) ∧ sI.heap.UpToSlots s'.heap ∧ HandSPX.HeldZ B X.stack a (Zc cls d) X.env.locals s'.heap ∧
    H a = none ∧ s'.os = sI.os ∧ AllBare s'.gens ∧ E0 cls d H ∧ H C = none
theorem ns_up {h h' : Heap} {m : Str → Option Value} (n : h.Ns C m) (up : h.UpToSlots h') : h'.Ns C m := by
  obtain ⟨o, es, ep, e1, e2, r⟩ := n
  obtain ⟨sl, e3⟩ := up C o e1 fun vs z => by rw [e2] at z; cases z
  exact ⟨_, es, ep, e3, e2, r⟩
theorem note {ce : Env} {Q : Unit → Shared → Prop} {E1 : Value → Shared → Prop} (hs : X.stack = X.env :: X.outer) (hf : X.env.frame = some X.env.locals) (hc : ce.frame = X.env.frame) (x : XB X E0 C u s')
    (hQ : ∀ s'', XH X E0 C u s'' → (∃ m, s''.heap.Ns C m) → Q () s'') : wpAny (model X.prog X.w) X.A (noteFrame u ce) Q E1 s' := by
  obtain ⟨⟨a, B, sI, pins, σ, H, cls, d, rfl, I, nb, up, sky, na, os, ag, w, hC⟩, m, hn⟩ := x
  have en : noteFrame (.ref a) ce = noteFrame (.ref a) X.env := by unfold noteFrame PySem.frameOf; rw [hc]
  rw [en]
  have hfr : X.A.frames = some (X.env :: X.outer) := I.ok.frames.trans (congrArg some hs)
  have fin : ∀ h', HandSPX.HeldZ B (X.env :: X.outer) a (Zc cls d) X.env.locals h' → s'.heap.UpToSlots h' → Q () { s' with heap := h' } := fun h' hh up' =>
    hQ _ ⟨a, B, sI, pins, σ, H, cls, d, rfl, I, nb, up.trans up', by rw [hs]; exact hh, na, os, ag, w, hC⟩ ⟨m, ns_up hn up'⟩
  rw [hs] at sky
  rcases sky with ⟨y1, y2, y3, oe, vs, y4, y5, y6, y7⟩ | fl | hh
  · exact HandSPX.look_newZ Zc.steady hfr y3 hf y4 y1 y2 y6 y7 y5 fin
  · exact HandSPX.looks_onZ Zc.steady hfr hf fl fin
  · exact HandSPX.againZ hf hh.2.2.2 (fin _ hh (Heap.UpToSlots.of_keeps fun _ _ e => e))
theorem swapC (h : Heap) (C : Addr) {o' : Obj} (hfd : o'.isFreed = false) : ∃ g : Heap, (∀ b, b ≠ C → g.get? b = h.get? b) ∧ ((h.get? C = none ∧ g.get? C = none) ∨ ((∃ o, h.get? C = some o) ∧ g.get? C = some o')) := by
  cases e : h.get? C with
  | none => exact ⟨h, fun _ _ => rfl, .inl ⟨rfl, e⟩⟩
  | some o => exact ⟨h.update C fun _ => o', fun b hb => Heap.get?_update_other _ _ (Ne.symm hb), .inr ⟨⟨o, rfl⟩, Heap.get?_update_self (fun _ => o') e hfd⟩⟩
theorem frames_off {base h h' : Heap} : ∀ {l : List Env}, h.FunFrames base l → (∀ L ∈ frs l, h'.get? L = h.get? L) → h'.FunFrames base l
  | [], _, _ => trivial
  | env :: l, ⟨k1, ⟨L, o, k2, k3, k4, k5⟩, k6⟩, hn => by
    have hm : L ∈ frs (env :: l) := List.mem_filterMap.mpr ⟨env, List.mem_cons_self, k2⟩
    refine ⟨k1, ⟨L, o, k2, k3, (hn L hm).trans k4, k5⟩, frames_off k6 fun b hb => hn b ?_⟩
    obtain ⟨e, e1, e2⟩ := List.mem_filterMap.mp hb
    exact List.mem_filterMap.mpr ⟨e, List.mem_cons_of_mem _ e1, e2⟩
/-- the block's names are let go, the exception goes on -/
theorem pass {ce : Env} {what : String} {h' : Heap} {m m' : Str → Option Value} (tk : Takes X fun cls d _ H => E0 cls d H) (hc : ce.frame = some X.env.locals) (x : XH X E0 C u s') (hn : s'.heap.Ns C m) (sb : Heap.SameBut C s'.heap h') (hn' : h'.Ns C m')
    (c1 : C ≠ X.env.locals) (c2 : C ∉ X.fs) (c3 : C ∈ X.ex ∨ X.s_0.heap.objs.size ≤ C) (c4 : ∀ x c, X.env.cells.lookup x = some c → c ≠ C) (c5 : ∀ p ∈ X.pn, p.1 ≠ C) :
    wpAny (model X.prog X.w) X.A (PySem.passOn what u ce : Sem Value) (fun _ _ => False) X.xe { s' with heap := h' } := by
  obtain ⟨a, B, sI, pins, σ, H, cls, d, rfl, I, nb, up, hh, na, os, ag, w, hC⟩ := x
  obtain ⟨k1, k2, k3, oe, vs, T, oT, ts, t1, t2, t3, t4, t5, t6, t7, t8, t9⟩ := hh
  obtain ⟨oC, es0, ep0, q1, q2, _⟩ := hn
  obtain ⟨o', es, ep, q3, q4, _⟩ := hn'
  have hfd : o'.isFreed = false := by
    obtain ⟨x1, x2, x3, x4⟩ := o'
    cases (show x3 = _ from q4); rfl
  have nst : C ∉ frs X.stack := fun hm => (List.mem_cons.mp (I.stkSub C hm)).elim c1 c2
  have naC : a ≠ C := fun e => by rw [e, q1] at t1; cases t1; rw [q2] at t3; cases t3
  have nTC : T ≠ C := fun e => by rw [e, q1] at t7; cases t7; rw [q2] at t8; cases t8
  obtain ⟨g, g1, g2⟩ := swapC sI.heap C hfd
  obtain ⟨G, G1, G2⟩ := swapC B C hfd
  have I' : Inv X [] σ H { sI with heap := g, toks := sI.toks } := (I.unpinned (pins := [])).turned (it := C) (fun b o hb e => (g1 b hb).trans e) hC (Ne.symm (Ne.symm c1)) c3 c4 fun p hp => c5 p (by simpa using hp)
  have off : ∀ b, b ≠ C → h'.get? b = s'.heap.get? b := fun b hb => sb.2 b hb
  have up' : g.UpToSlots h' := fun b o e nf => by
    by_cases hb : b = C
    · subst hb
      rcases g2 with ⟨_, z⟩ | ⟨_, z⟩
      · rw [z] at e; cases e
      · rw [z] at e; cases e; exact ⟨_, q3⟩
    · rw [g1 b hb] at e
      rw [off b hb]; exact up b o e nf
  have nb' : ∀ b o, g.get? b = some o → b ∉ frs X.stack → G.get? b = some o := fun b o e hf => by
    by_cases hb : b = C
    · subst hb
      rcases g2 with ⟨_, z⟩ | ⟨⟨o1, z1⟩, z⟩
      · rw [z] at e; cases e
      · rw [z] at e; cases e
        rcases G2 with ⟨y, _⟩ | ⟨_, y⟩
        · rw [nb _ _ z1 nst] at y; cases y
        · exact y
    · rw [g1 b hb] at e
      rw [G1 b hb]; exact nb b o e hf
  have hh' : HandSPX.HeldZ G X.stack a (Zc cls d) X.env.locals h' := by
    refine ⟨fun b o e => ?_, by rw [G1 a naC]; exact k2, ?_, oe, vs, T, oT, ts, by rw [off a naC]; exact t1, t2, t3, t4, by rw [G1 T nTC]; exact t5, t6, by rw [off T nTC]; exact t7, t8, t9⟩
    · by_cases hb : b = C
      · subst hb
        rcases G2 with ⟨_, z⟩ | ⟨_, z⟩
        · rw [z] at e; cases e
        · rw [z] at e; cases e; exact q3
      · rw [G1 b hb] at e
        rw [off b hb]; exact k1 b o e
    · have nL : ∀ L ∈ frs X.stack, L ≠ C := fun L hL e => nst (e ▸ hL)
      refine frames_off (funFrames_none k3 fun L hL => ?_) fun L hL => off L (nL L hL)
      rw [G1 L (nL L hL)]; exact (k3.mem hL).1
  have ha' : h'.get? a = some oe := (off a naC).trans t1
  unfold PySem.passOn
  refine wpAny_bind (wpAny_field (s := { s' with heap := h' }) ha' t3 t4 ?_)
  rw [if_neg (show ¬ ((Value.ref T == Value.none) = true) by simp), hc]
  refine wpAny_bind (HandSPX.setFlight_onZ (s := { s' with heap := h' }) hh' fun h2 hh2 up2 => wpAny_throw (tk _ _ ?_))
  exact ⟨a, G, _, [], σ, H, cls, d, rfl, I', nb', up'.trans up2, .inr (.inr hh2), na, os, ag, w⟩
end
/-! ### the block -/
def PostE (M : Model) (A : Around) (E : Value → Shared → Prop) (Q : Value → Shared → Prop) (acc : Value) (ce : Env) (r : Result) (s' : Shared) : Prop :=
  match r with
  | .ok _ => ∃ m, s'.heap.Ns ce.locals m ∧ ∀ h', Heap.SameBut ce.locals s'.heap h' → Q acc { s' with heap := h' }
  | .error x => ∃ m, s'.heap.Ns ce.locals m ∧ ∀ h' m', Heap.SameBut ce.locals s'.heap h' → h'.Ns ce.locals m' →
      wpAny M A (PySem.passOn "comprehension.variables-let-go" x ce : Sem Value) (fun _ _ => False) E { s' with heap := h' }
theorem comp_may {M : Model} {A : Around} {E : Value → Shared → Prop} {s : Shared} {env : Env} {e : Expr} {scope : Scope} {pos : Pos} {acc0 fst : Sem Value} {g : Comprehension} {gs : List Comprehension} {cl : List (Str × Addr)} {Q : Value → Shared → Prop}
    (hcl : clausesOf e = g :: gs) (hf : ∀ x, foldedSetIterable g.iter env x = pure x) (hk : closureFor scope env = pure cl) (hkind : scope.kind = .function) (hnames : ∀ x ∈ scope.names, x.2 = .local → scope.names.lookup x.1 = some .local)
    (h : wpAny M A fst (fun x s1 => wpAny M A (pyIter x) (fun it s2 => wpAny M A acc0 (fun acc s3 => wpAny M A (newFunctionEnv scope env.globals cl [] env.qual none .none (some env))
      (fun ce s4 => codeAny M A (.compStart e 0 it acc { ce with scope := relabel scope env }) (PostE M A E Q acc { ce with scope := relabel scope env }) s4) E s3) E s2) E s1) E s) :
    wpAny M A (comprehension e scope env pos acc0 false fst none) Q E s := by
  have up : ∀ {α : Type} {t : Sem α} {P P' : α → Shared → Prop} {s : Shared}, wpAny M A t P E s → (∀ a s, P a s → P' a s) → wpAny M A t P' E s := fun h hp => wpAny_mono h hp fun _ _ z => z
  unfold comprehension
  rw [hk, hcl]
  refine wpAny_bind (up h fun x s1 h1 => ?_)
  refine wpAny_bind (wpAny_standAt ?_)
  refine wpAny_bind (wpAny_of_eq (hf x) ?_)
  refine wpAny_bind (wpAny_holding (up h1 fun it s2 h2 => ?_))
  refine wpAny_standIf ?_
  refine wpAny_bind (up h2 fun acc s3 h3 => ?_)
  refine wpAny_bind (wpAny_pure ?_)
  refine wpAny_bind (up h3 fun ce s4 h4 => ?_)
  dsimp only
  have loc : ∀ x ∈ (scope.names.filter fun x => (x.2 == .local || x.2 == .cell) && x.1 != (".0" : Str)).reverse, x.2 = .local → Env.kindOf { ce with scope := relabel scope env } x.1 = some .local :=
    fun x hx e => lookup_relabel_local (hnames x (List.mem_filter.mp (List.mem_reverse.mp hx)).1 e)
  refine wpAny_holding (wpAny_bind (wpAny_attempt (wpAny_holding (wpAny_run (codeAny_mono h4 fun r s5 hr => ?_)))))
  cases r with
  | ok f =>
    obtain ⟨m, n, q⟩ := hr
    refine wpAny_bind (wpAny_holding ?_)
    exact wpAny_comp_letGo (cenv := { ce with scope := relabel scope env }) hkind _ s5 m loc n fun h' _ _ sb => wpAny_pure (q h' sb)
  | error x =>
    obtain ⟨m, n, q⟩ := hr
    refine wpAny_bind (wpAny_holding ?_)
    exact wpAny_comp_letGo (cenv := { ce with scope := relabel scope env }) hkind _ s5 m loc n fun h' m' n' sb => wpAny_mono (q h' m' sb n') (fun _ _ z => z.elim) fun _ _ z => z
/-- the block's context: what goes wrong is in the air of X -/
abbrev blkE (X : Cx) (E0 : XK) (s : Shared) (H : Hp) (scope : Scope) (ce : Env) (fp : List Addr) : Cx := { X.blk s H scope ce fp with xe := XB X E0 ce.locals }
theorem inv_xe {X : Cx} {pins : List (Addr × Obj)} {σ : L2.St} {H : Hp} {s : Shared} (E : Value → Shared → Prop) (I : Inv X pins σ H s) : Inv { X with xe := E } pins σ H s :=
  ⟨⟨I.ok.mod, I.ok.kind, I.ok.glob, I.ok.blt, I.ok.above, I.ok.inj, I.ok.has, I.ok.cab, I.ok.hd, I.ok.frames, I.ok.stk, I.ok.exf, I.ok.bs, I.ok.bsz, I.ok.noex, I.ok.exfs, I.ok.funs, I.ok.frf⟩,
    I.os, I.bare, I.base, I.loc, I.cell, I.free, I.freeC, I.pin, I.hok, I.len⟩
section
variable {X : Cx} {E0 : XK}
theorem pe_lcE {elt tg iter : Expr} {ifs : List Expr} {scope : Scope} {own : List (Str × Nat)} {pos : Pos} {wi : TI} {g : TG} {tt : TT} {te : TE} (tk : Takes X fun cls d _ H => E0 cls d H) (hs : X.stack = X.env :: X.outer) (hf : X.env.frame = some X.env.locals)
    (hc : X.calm = true) (hN : X.N.Nodup) (hi : PI X tg iter wi) (ok : BlkOk X.N X.env.scope scope own)
    (hg : ∀ (s : Shared) (H : Hp) (C : Addr) (cl : List (Str × Addr)) (fp : List Addr), PG (blkE X E0 s H scope (compEnvC scope cl C X.env) fp) tg g)
    (ht : ∀ (s : Shared) (H : Hp) (C : Addr) (cl : List (Str × Addr)) (fp : List Addr), PTs (blkE X E0 s H scope (compEnvC scope cl C X.env) fp) ifs tt)
    (he : ∀ (s : Shared) (H : Hp) (C : Addr) (cl : List (Str × Addr)) (fp : List Addr), Passes (L2.CX X.prog X.w) (blkE X E0 s H scope (compEnvC scope cl C X.env) fp) E0 → PE (blkE X E0 s H scope (compEnvC scope cl C X.env) fp) elt te)
    (hz : ∀ x, foldedSetIterable iter X.env x = pure x := by intro _; rfl) :
    PE X (.ListComp elt [⟨tg, iter, ifs, 0⟩] scope pos) (tLc wi g tt te (own.map (·.2))) := by
  refine ⟨fun pins s σ H Q I h => ?_⟩
  rw [eval_ListComp]
  have hcells : ∀ y ∈ scope.names, y.2 = .free → ∃ c, X.env.cells.lookup y.1 = some c := fun y hy e => I.ok.has _ (ok.free y hy e)
  refine comp_may rfl hz (closure_ok hcells) ok.kind (fun y hy e => (ok.uniq y hy).trans (congrArg some e)) ?_
  refine thn (hi.run pins s σ H _ I h) fun xv s1 hx => ?_
  refine thn hx fun itv s2 h2 => ?_
  obtain ⟨it, fp, tn, J, H2, rfl, I2, T, st2, f2, q⟩ := h2
  refine wpAny_newObj_type (newEnv_comp ?_) (by show 0 ≤ sizeLine; decide)
  obtain ⟨D, hD⟩ : ∃ D, D = s2.heap.objs.size := ⟨_, rfl⟩
  rw [← hD]
  have hDn : H2 D = none := I2.hok.fresh (Nat.le_of_eq hD.symm)
  obtain ⟨W, ⟨m0, w0⟩, turn⟩ := q D hDn
  generalize hs3 : ({ s2 with heap := s2.heap.push { cls := .type "list", data := .seq ([] : List Value).toArray } } : Shared) = s3
  have h3 : s3.heap = s2.heap.push { cls := .type "list", data := .seq ([] : List Value).toArray } := by rw [← hs3]
  have I3 : Inv X pins σ (upd H2 D (.lst [])) s3 := by
    rw [← hs3]
    refine I2.laid (t' := s2.toks) (fun _ _ e => Heap.get?_push_of_some _ e) (Nat.le_of_eq hD.symm) ⟨Nat.zero_le _, [], 0, .nil, ?_⟩
    rw [hD]; exact Heap.get?_push_size _ rfl
  have lt3 : ∀ b ∈ fp, b < s2.heap.objs.size := fun b hb => let ⟨_, e, _⟩ := T.obj _ _ st2 b hb; Heap.lt_size e
  generalize hH3 : upd H2 D (.lst []) = H3 at I3 w0
  have f3 : ∀ b ∈ fp, FpOk X pins H3 b ∧ b < s3.heap.objs.size := fun b hb => by
    have hlt := lt3 b hb
    refine ⟨⟨?_, (f2 b hb).2⟩, by rw [h3, Heap.size_push]; exact Nat.lt_succ_of_lt hlt⟩
    rw [← hH3, upd_ne (by rw [hD]; exact Nat.ne_of_lt hlt)]; exact (f2 b hb).1
  have st3 : tn 0 s3.heap := T.keep _ _ _ st2 fun b _ o e => by rw [h3]; exact Heap.get?_push_of_some _ e
  have fpC : FpOk X pins H3 s3.heap.objs.size := I3.fpOk (Nat.le_refl _) (I3.hok.fresh (Nat.le_refl _))
  obtain ⟨_, c1, c2, c3, c4, c5⟩ := id fpC
  obtain ⟨cl, hcl⟩ : ∃ cl, cl = cellsFrom (s3.heap.objs.size + 1) scope.names (cloFrom X.env.cells scope.names []) := ⟨_, rfl⟩
  obtain ⟨ce, hce⟩ : ∃ ce, ce = compEnvC scope cl s3.heap.objs.size X.env := ⟨_, rfl⟩
  have I4 : Inv (blkE X E0 s3 H3 scope ce fp) [] (wipe σ (own.map (·.2))) H3 { s3 with heap := pushCells (s3.heap.push { cls := .type "dict", data := .dict #[] }) scope.names } := by
    rw [hce, hcl]; exact inv_xe _ (block_start I3 ok hN f3)
  have pg := hg s3 H3 s3.heap.objs.size cl fp
  have pt := ht s3 H3 s3.heap.objs.size cl fp
  have pe := he s3 H3 s3.heap.objs.size cl fp
  rw [← hce] at pg pt pe
  have cL : ce.locals = s3.heap.objs.size := by rw [hce]; rfl
  have cF : ce.frame = X.env.frame := by rw [hce]; rfl
  show codeAny _ _ (.compStart (.ListComp elt [⟨tg, iter, ifs, 0⟩] scope pos) 0 (.ref it) (.ref D) (compEnvC scope (cellsFrom (s3.heap.objs.size + 1) scope.names (cloFrom X.env.cells scope.names [])) s3.heap.objs.size X.env))
    (PostE (model X.prog X.w) X.A X.xe (EP X pins σ Q) (.ref D) (compEnvC scope (cellsFrom (s3.heap.objs.size + 1) scope.names (cloFrom X.env.cells scope.names [])) s3.heap.objs.size X.env)) { s3 with heap := pushCells (s3.heap.push { cls := .type "dict", data := .dict #[] }) scope.names }
  rw [← hcl, ← hce]
  generalize hs4 : ({ s3 with heap := pushCells (s3.heap.push { cls := .type "dict", data := .dict #[] }) scope.names } : Shared) = s4 at I4 ⊢
  have st4 : tn 0 s4.heap := T.keep _ _ _ st3 fun b _ o e => by rw [← hs4]; exact pushCells_keeps _ _ _ _ (Heap.get?_push_of_some _ e)
  have nfp : ∀ b ∈ fp, H3 b = none := fun b hb => (f3 b hb).1.1
  -- back in the context of X
  have back : ∀ {pins' : List (Addr × Obj)} {σ' : L2.St} {H' : Hp} {s' : Shared}, Inv (blkE X E0 s3 H3 scope ce fp) pins' σ' H' s' → Inv X pins σ H' s' ∧ H' s3.heap.objs.size = none ∧ ∃ m, s'.heap.Ns s3.heap.objs.size m := fun {pins' σ' H' s'} I' => by
    refine ⟨I3.call' (ch := fp) I'.os I'.base I'.hok I'.bare fun b hb => ?_, ?_, ?_⟩
    · obtain ⟨⟨_, y1, _, y3, y4, y5⟩, _⟩ := f3 b hb
      exact ⟨y3, y1, y4, y5⟩
    · have z : H' ce.locals = none := I'.free
      rw [cL] at z; exact z
    · obtain ⟨m, n, _⟩ := I'.loc
      have n : s'.heap.Ns ce.locals m := n
      rw [cL] at n; exact ⟨m, n⟩
  have nst : s3.heap.objs.size ∉ frs X.stack := fun hm => (List.mem_cons.mp (I3.stkSub _ hm)).elim c1 c2
  have pas : Passes (L2.CX X.prog X.w) (blkE X E0 s3 H3 scope ce fp) E0 := fun pins' σ' H' s' e s'' I' c => by
    obtain ⟨I7, n7, m, hm⟩ := back I'
    obtain ⟨a, B, H8, cls, d, rfl, fl, hok, ub, na, os, ag, hE⟩ := c
    obtain ⟨oC, es, ep, e1, e2, e3⟩ := id hm
    have kB : B.get? s3.heap.objs.size = some oC := ub.keep _ _ e1 n7 nst
    show XB X E0 ce.locals _ _
    rw [cL]
    exact ⟨XE.of_call I7 (W := WC E0 s3.heap.objs.size) (E := fun cls d H => E0 cls d H ∧ H s3.heap.objs.size = none) (fun _ _ _ z => z) ⟨a, B, H8, cls, d, rfl, fl, hok, ub, na, os, ag, hE, ub.free _ _ e1 n7⟩, m, oC, es, ep, fl.1 _ _ kB, e2, e3⟩
  have pe := pe pas
  have oops : ∀ e s', XB X E0 ce.locals e s' → notedBy (model X.prog X.w) X.A ce (fun e s' => PostE (model X.prog X.w) X.A X.xe (EP X pins σ Q) (.ref D) ce (.error e) s') e s' := fun e s' x =>
    note hs hf cF x fun s'' xh ⟨m, n⟩ => ⟨m, n, fun h' m' sb n' => pass tk (cF.trans hf) xh n sb n' (by rw [cL]; exact c1) (by rw [cL]; exact c2) (by rw [cL]; exact c3) (by rw [cL]; exact c4) fun p hp => by rw [cL]; exact c5 p (List.mem_append_left _ hp)⟩
  have thE : ∀ {α : Type} {t : Sem α} {P P' : α → Shared → Prop} {s : Shared}, wpAny (model X.prog X.w) X.A t P (XB X E0 ce.locals) s → (∀ a s, P a s → P' a s) →
      wpAny (model X.prog X.w) X.A t P' (notedBy (model X.prog X.w) X.A ce fun e s' => PostE (model X.prog X.w) X.A X.xe (EP X pins σ Q) (.ref D) ce (.error e) s') s := fun h hp => wpAny_mono h hp oops
  have stat : ∀ {σ' : L2.St} {H' : Hp} {s' : Shared}, Inv (blkE X E0 s3 H3 scope ce fp) [] σ' H' s' → (∀ b ∈ fp, H' b = none) → ∀ b ∈ fp, FpOk (blkE X E0 s3 H3 scope ce fp) [] H' b := fun {σ' H' s'} I' hn b hb =>
    ⟨hn b hb, (I'.ok.exf b hb).1, I'.ok.exfs b hb, .inl hb, fun x c e => (I'.ok.exf b hb).2 x c e, fun p hp => nomatch (show p ∈ ([] : List (Addr × Obj)) from hp)⟩
  have loop : codeAny (model X.prog X.w) X.A (.compLoop (.ListComp elt [⟨tg, iter, ifs, 0⟩] scope pos) 0 (.ref it) (.ref D) ce) (PostE (model X.prog X.w) X.A X.xe (EP X pins σ Q) (.ref D) ce) s4 := by
    refine compLoop_any (fun n s' => ∃ i H', Inv (blkE X E0 s3 H3 scope ce fp) [] (wipe σ (own.map (·.2))) H' s' ∧ tn i s'.heap ∧ (∀ b ∈ fp, H' b = none) ∧ W i n H') ?_ m0 ⟨0, H3, I4, st4, nfp, w0⟩
    rintro n s5 ⟨i, H5, I5, st5, n5, w5⟩
    rcases turn i n H5 w5 with ⟨stop, qq⟩ | ⟨go, Nx, hNx, step⟩
    · refine thnF (T.done (blkE X E0 s3 H3 scope ce fp) rfl rfl rfl hc i [] s5 _ H5 (fun _ _ => False) I5 (stat I5 n5) st5 stop) fun r s6 hr6 => ?_
      obtain ⟨rfl, I6⟩ := hr6
      obtain ⟨I7, n7, m, hm⟩ := back I6
      refine ⟨m, by rw [cL]; exact hm, fun h' sb => ?_⟩
      rw [cL] at sb
      exact ⟨.ref D, H5, I7.turned (t' := s6.toks) (fun b o hb e => (sb.2 b hb).trans e) n7 c1 c3 c4 c5, rfl, qq⟩
    · refine thnF (T.item (blkE X E0 s3 H3 scope ce fp) rfl rfl rfl hc i [] s5 _ H5 (fun _ _ => False) I5 (stat I5 n5) st5 go) fun r s6 hr6 => ?_
      obtain ⟨u, rfl, h6⟩ := hr6
      refine thnF h6 fun _ s7 h7 => ?_
      obtain ⟨x, H7, I7, r7, y7, st7, n7⟩ := h7
      have I7' := I7.pinned (stat I7 n7) (T.obj _ _ st7)
      refine thE (pg.run _ s7 _ H7 x u _ I7' r7 (step x H7 y7)) fun _ s8 h8 => ?_
      obtain ⟨σ8, H8, I8, hw8, q8⟩ := h8
      refine thE (pt.run _ s8 σ8 H8 _ I8 q8) fun b s9 h9 => ?_
      obtain ⟨H9, I9, q9⟩ := h9
      have fin : ∀ {s' : Shared} {H' : Hp}, Inv (blkE X E0 s3 H3 scope ce fp) ([] ++ pinsAt fp s7.heap) σ8 H' s' → Nx H' →
          ∃ m, m < n ∧ ∃ i H', Inv (blkE X E0 s3 H3 scope ce fp) [] (wipe σ (own.map (·.2))) H' s' ∧ tn i s'.heap ∧ (∀ b ∈ fp, H' b = none) ∧ W i m H' := fun {s' H'} I' nx => by
        obtain ⟨m', hm, w'⟩ := hNx H' nx
        have at_ : ∀ b ∈ fp, ∀ o, s7.heap.get? b = some o → s'.heap.get? b = some o ∧ H' b = none := fun b hb o e => by
          obtain ⟨z1, z2, _⟩ := I'.pin (b, o) (List.mem_append_right _ (List.mem_append_right _ (mem_pinsAt hb e)))
          exact ⟨z1, z2⟩
        have hl : (wipe σ (own.map (·.2))).length = σ8.length := by rw [← hw8, wipe_length]
        refine ⟨m', hm, i + 1, H', (I'.unpinned (pins := [])).weak hl fun j v e => ?_, T.keep _ _ _ st7 fun b hb o e => (at_ b hb o e).1, fun b hb => ?_, w'⟩
        · rw [← hw8] at e; exact (wipe_some e).1
        · obtain ⟨o, e, _⟩ := T.obj _ _ st7 b hb
          exact (at_ b hb o e).2
      cases b with
      | false =>
        simp only [Bool.false_eq_true, if_false] at q9 ⊢
        exact fin I9 q9
      | true =>
        simp only [if_true] at q9 ⊢
        refine thE (pe.run _ s9 σ8 H9 _ I9 q9) fun z s10 h10 => ?_
        obtain ⟨yv, H10, I10, r10, ac, hD10, hz10, nx⟩ := h10
        exact app_ok (X := blkE X E0 s3 H3 scope ce fp) I10 hD10 hz10 r10 fun s11 I11 => fin I11 nx
  exact codeAny_compStart_list loop (T.self X.A 0 _ _ _ st4 loop)
end
end RC

set_option maxRecDepth 100000
set_option maxHeartbeats 4000000
/-! several except clauses, each with the same name behind as -/
namespace RT
open PySem PySem.Spec PyProof.Rows L2
/-- what is wanted behind a suite whose name at i is let go -/
def offD (D : Ends) (i : Nat) : Ends := { nx := fun σ H => D.nx (σ.set i none) H, rt := D.rt, bk := fun σ H => D.bk (σ.set i none) H, ct := fun σ H => D.ct (σ.set i none) H }
abbrev Cl : Type := Value × (Addr → Value → Option Addr → TS)
def wAsM (K : PySem.W.Frag) (i : Nat) (W0 : WX) (D : Ends) : List Cl → WX
  | [] => W0
  | k :: r => fun cls d σ H => ∃ b, PySem.W.exmOne K cls k.1 = some b ∧ (b = true → ∀ a, H a = none → k.2 a cls d (offD D i) (σ.set i (some (.ref a))) H) ∧ (b = false → wAsM K i W0 D r cls d σ H)
inductive AsOk (X : Cx) (n : Str) : List ExceptHandler → List Cl → Prop
  | nil : AsOk X n [] []
  | cons {x : Str} {c : Value} {ts : Addr → Value → Option Addr → TS} {b0 : Stmt} {su : List Stmt} {np p' : Pos} {hs : List ExceptHandler} {l : List Cl} (hc : Names X x c)
      (hsu : ∀ (a : Addr) (oe : Obj) (cls : Value) (d : Option Addr) (pn : List (Addr × Obj)), Zc cls d oe → (∃ vs, oe.data = .fields vs) → PSs (X.suite a ((a, oe) :: pn)) (b0 :: su) (ts a cls d))
      (r : AsOk X n hs l) : AsOk X n (.ExceptHandler (some (.Name x np)) (some n) (b0 :: su) p' :: hs) ((c, ts) :: l)
section
variable {X : Cx} {n : Str} {i : Nat} {body : List Stmt} {h0 : ExceptHandler} {hds : List ExceptHandler} {l : List Cl} {pos : Pos} {tb : WX → TS} {W0 : WX}
/-- caught, on the ground -/
structure Got (X : Cx) (pins : List (Addr × Obj)) (σ : L2.St) (H : Hp) (a : Addr) (B : Heap) (sI s3 : Shared) (cls : Value) (d : Option Addr) : Prop where
  inv : Inv X pins σ H sI
  nb : ∀ b o, sI.heap.get? b = some o → b ∉ frs X.stack → B.get? b = some o
  up : sI.heap.UpToSlots s3.heap
  fl : HandSPX.FlyingZ B (X.env :: X.outer) a (Zc cls d) s3.heap
  na : H a = none
  os : s3.os = sI.os
  ag : AllBare s3.gens
theorem Got.notFrame {pins : List (Addr × Obj)} {σ : L2.St} {H : Hp} {a : Addr} {B : Heap} {sI s3 : Shared} {cls : Value} {d : Option Addr} (g : Got X pins σ H a B sI s3 cls d) (hf : X.env.frame = some X.env.locals) : a ≠ X.env.locals ∧ a ∉ X.fs := by
  obtain ⟨oe, vs, e1, _, e3⟩ := g.fl.there
  have nfr : a ∉ frs (X.env :: X.outer) := fun hm => by
    obtain ⟨_, o, e, hnf⟩ := g.fl.2.2.1.mem hm
    rw [e1] at e; cases e; exact hnf _ e3
  refine ⟨fun z => nfr (List.mem_filterMap.mpr ⟨_, List.mem_cons_self, hf.trans (congrArg some z.symm)⟩), fun hm => ?_⟩
  obtain ⟨e, y1, y2⟩ := List.mem_filterMap.mp hm
  exact nfr (List.mem_filterMap.mpr ⟨e, List.mem_cons_of_mem _ y1, y2⟩)
theorem clauses (hs : X.stack = X.env :: X.outer) (hf : X.env.frame = some X.env.locals) (hN : X.N.Nodup) (hi : X.N[i]? = some n) (hln : X.env.kindOf n = some .local) (tk : Takes X W0) {D : Ends}
    {pins : List (Addr × Obj)} {σ : L2.St} {H : Hp} {a : Addr} {B : Heap} {sI s3 : Shared} {cls : Value} {d : Option Addr} (ok : X.Ok) (g : Got X pins σ H a B sI s3 cls d) :
    ∀ {hl : List ExceptHandler} {cl : List Cl}, AsOk X n hl cl → wAsM X.K i W0 D cl cls d σ H → wpAny (model X.prog X.w) X.A (handleBy (.ref a) X.env hl) (SP X pins D) X.xe s3 := by
  intro hl cl hk
  obtain ⟨nL, nF⟩ := g.notFrame hf
  have I3 : Inv X pins σ H s3 := g.inv.landed g.nb g.fl.1 g.up g.os g.ag
  obtain ⟨o3, v3, x3, z3, d3⟩ := g.fl.there
  have S3 := I3.suite x3 d3 g.na nL nF
  induction hk with
  | nil =>
    intro wv
    refine wpAny_handleBy_nil ?_
    obtain ⟨_, _, _, oe, vs, T, _, _, y1, _, y3, y4, _⟩ := id g.fl
    unfold PySem.passOn
    refine wpAny_bind (wpAny_field y1 y3 y4 ?_)
    rw [if_neg (show ¬ ((Value.ref T == Value.none) = true) by simp), hf]
    refine wpAny_bind (HandSPX.setFlight_upZ g.fl fun h4 hh up => wpAny_throw (tk _ _ ?_))
    exact ⟨a, B, sI, pins, σ, H, cls, d, rfl, g.inv, g.nb, g.up.trans up, .inr (.inr (by rw [hs]; exact hh)), g.na, g.os, g.ag, wv⟩
  | @cons x c ts b0 su np p' hs2 l2 hc hsu r ih =>
    rintro ⟨b, hb, yes, no⟩
    refine wpAny_handleBy_cons (codeAny_handlers_test ?_) (by intro q; cases q)
    have tyE : PySem.W.Looks (model X.prog X.w) s3.heap (typeOf (.ref a)) cls := fun _ _ _ _ k q => wpAny_typeOf_ref (k _ _ x3) (by rw [z3.1]; exact q)
    have exm := PySem.W.exm_one (M := model X.prog X.w) I3.kIn tyE hb
    have nm : ∀ {Q : Value → Shared → Prop} {E : Value → Shared → Prop}, Q c s3 → wpAny (model X.prog X.w) (X.A.mark (some (.ref a))) (eval (.Name x np) X.env) Q E s3 := fun q => by
      obtain ⟨w1, w2, w3 | ⟨w3, w4, w5⟩⟩ := hc
      · exact ld_glob (X := X.suite a ((a, o3) :: (X.pn ++ pins))) S3 w1 w3 q w2
      · exact ld_blt (X := X.suite a ((a, o3) :: (X.pn ++ pins))) S3 w1 w3 w4 q w5 w2
    refine nm (exm.here ?_)
    cases b with
    | false => exact ih (no rfl)
    | true =>
      refine codeAny_handlers_suite_as (HandSPX.lands_againZ g.fl fun h4 fl4 up4 => ?_)
      have I4 : Inv X pins σ H { s3 with heap := h4 } := g.inv.landed g.nb fl4.1 (g.up.trans up4) g.os g.ag
      obtain ⟨o4, v4, x4, z4, d4⟩ := fl4.there
      refine store_ok (X := X.suite a ((a, o4) :: (X.pn ++ pins))) (v := .ref a) (I4.suite x4 d4 g.na nL nF) hN hi (.inl hln) rfl (fun s5 S5 => ?_) (.inr hln)
      refine wpAny_mono ((hsu a o4 cls d (X.pn ++ pins) z4 ⟨_, d4⟩).run [] s5 _ H _ S5 (yes rfl a g.na)) (fun fl s6 sp => ?_) (fun _ _ z => z.elim)
      have off : ∀ {σ' : L2.St} {H' : Hp} {Q : Shared → Prop}, Inv (X.suite a ((a, o4) :: (X.pn ++ pins))) [] σ' H' s6 → (∀ s7, Inv X pins (σ'.set i none) H' s7 → Q s7) →
          wpAny (model X.prog X.w) X.A (do bindName X.env n .none; unbindBehindTheSuite X.env n p') (fun _ s7 => Q s7) X.xe s6 := fun y q => gone_ok (y.unsuite ok) hN hi hln q
      cases fl with
      | next => obtain ⟨_, _, y, q⟩ := sp; exact off y fun _ j => ⟨_, _, j, q⟩
      | brk => obtain ⟨_, _, y, q⟩ := sp; exact off y fun _ j => ⟨_, _, j, q⟩
      | cont => obtain ⟨_, _, y, q⟩ := sp; exact off y fun _ j => ⟨_, _, j, q⟩
      | ret u => obtain ⟨_, _, _, y, rr, q⟩ := sp; exact off y fun _ j => ⟨_, _, _, j, rr, q⟩
theorem ps_try_asM (hs : X.stack = X.env :: X.outer) (hf : X.env.frame = some X.env.locals) (hN : X.N.Nodup) (hi : X.N[i]? = some n) (hln : X.env.kindOf n = some .local) (tk : Takes X W0)
    (hb : ∀ (W : WX) (pn : List (Addr × Obj)) (xe : Value → Shared → Prop), Takes (X.tr pn xe) W → PassesOwn (model X.prog X.w) X.A X.env xe → PSs (X.tr pn xe) body (tb W)) (hh : AsOk X n (h0 :: hds) l) :
    PS X (.Try body (h0 :: hds) [] [] pos) (fun D σ H => tb (wAsM X.K i W0 D l) D σ H) := by
  refine ⟨fun pins s σ H D I h => ?_⟩
  have ok := I.ok
  refine wpAny_Try_except ?_
  have run := (hb (wAsM X.K i W0 D l) (X.pn ++ pins) (fun e s1 => wpAny (model X.prog X.w) X.A (noteFrame e X.env) (fun _ s2 => wpAny (model X.prog X.w) X.A (setFlight e none) (fun _ s3 => wpAny (model X.prog X.w) X.A (handleBy e X.env (h0 :: hds)) (SP X pins D) X.xe s3) X.xe s2) X.xe s1)
    (fun u s' xx => by
      obtain ⟨a, B, sI, pins', σ', H', cls, d, rfl, J, nb, up, sky, na, os, ag, wv⟩ := xx
      have sky' : Sky B (X.env :: X.outer) a (Zc cls d) X.env.locals s'.heap := by rw [← hs]; exact sky
      show wpAny (model X.prog X.w) X.A (noteFrame (.ref a) X.env) _ _ _
      refine Sky.land Zc.steady (ok.frames.trans (congrArg some hs)) hf sky' fun h3 fl3 up3 => ?_
      exact clauses hs hf hN hi hln tk ok (s3 := { s' with heap := h3 }) ⟨J.ofTry ok, nb, up.trans up3, fl3, na, os, ag⟩ hh wv) PassesOwn.looking).run [] s σ H D (I.toTry _) h
  refine wpAny_mono run (fun f s1 sp => ?_) (fun _ _ z => z)
  cases f with
  | next => obtain ⟨_, _, y, q⟩ := sp; exact wpAny_execs_nil ⟨_, _, y.ofTry ok, q⟩
  | brk => obtain ⟨_, _, y, q⟩ := sp; exact ⟨_, _, y.ofTry ok, q⟩
  | cont => obtain ⟨_, _, y, q⟩ := sp; exact ⟨_, _, y.ofTry ok, q⟩
  | ret u => obtain ⟨_, _, _, y, rr, q⟩ := sp; exact ⟨_, _, _, y.ofTry ok, rr, q⟩
end
end RT

set_option maxRecDepth 100000
set_option maxHeartbeats 4000000
namespace K28
open PySem PySem.Spec PyProof.Rows L2 PySem.W PySem.Calls RJ
/-! ### heaps -/
theorem same_new {H : Hp} {p : Addr} {o : HO} (h : H p = none) : Same H (upd H p o) := fun b x e => by
  rw [upd_ne (ne_of_none e h)]; exact e
theorem same_at {H H' : Hp} {o : Addr} {x : HO} (s : Same H H') (h : H o = none) : Same H (upd H' o x) := fun b z e => by
  rw [upd_ne (ne_of_none e h)]; exact s b z e
theorem same_new2 {H H' : Hp} {p : Addr} {o : HO} (s : Same H H') (h : H' p = none) : Same H (upd H' p o) := fun b z e => by
  have e2 := s b z e
  rw [upd_ne (ne_of_none e2 h)]; exact e2
theorem map_snoc (rs : List Int) (r : Int) : rs.map V.int ++ [V.int r] = (rs ++ [r]).map V.int := by rw [List.map_append]; rfl
theorem map_snocS (rs : List Str) (r : Str) : rs.map V.str ++ [V.str r] = (rs ++ [r]).map V.str := by rw [List.map_append]; rfl
/-! ### texts as lists -/
abbrev tl (z : Str) : List Nat := z.cps.toList
theorem tl_len (z : Str) : (tl z).length = z.length := by simp [tl, Str.length]
theorem str_eq {a b : Str} (h : tl a = tl b) : a = b := by
  obtain ⟨x⟩ := a; obtain ⟨y⟩ := b
  show (⟨x⟩ : Str) = ⟨y⟩
  congr 1
  apply Array.toList_inj.mp; simpa [tl] using h
theorem str_of {z : Str} {x : Nat} (h : tl z = [x]) : z = ⟨#[x]⟩ := str_eq h
theorem str_mk (z : Str) : z = ⟨(tl z).toArray⟩ := str_eq rfl
theorem tl_add (a b : Str) : tl (a ++ b) = tl a ++ tl b := by
  show (a.cps ++ b.cps).toList = _
  rw [Array.toList_append]
theorem len_add (a b : Str) : (a ++ b).length = a.length + b.length := by
  show (a.cps ++ b.cps).size = _
  rw [Array.size_append]; rfl
theorem lt_one (x y : Nat) : decide ([x] < [y]) = !decide (y ≤ x) := by
  have e : decide ([x] < [y]) = decide (x < y) := by simp [List.cons_lt_cons_iff]
  rw [e]
  by_cases h : y ≤ x
  · rw [decide_eq_true h, decide_eq_false (by omega)]; rfl
  · rw [decide_eq_false h, decide_eq_true (by omega)]; rfl
theorem eqS (a b : Nat) : decide (V.str ⟨#[a]⟩ = V.str ⟨#[b]⟩) = decide (a = b) := by
  refine decide_eq_decide.mpr ⟨fun h => ?_, fun h => by rw [h]⟩
  injection h with h1
  have h2 := congrArg tl h1
  simpa [tl] using h2
theorem eqT (a b : Str) : decide (V.str a = V.str b) = decide (tl a = tl b) := by
  refine decide_eq_decide.mpr ⟨fun h => ?_, fun h => by rw [str_eq h]⟩
  injection h with h1
  rw [h1]
theorem eqI (a b : Int) : decide (V.int a = V.int b) = decide (a = b) := by
  refine decide_eq_decide.mpr ⟨fun h => ?_, fun h => by rw [h]⟩
  injection h
theorem cut_tl (z : Str) (a b : Nat) : tl (cutS z (some (a : Int)) (some (b : Int))) = ((tl z).drop (min a z.length)).take (min b z.length - min a z.length) := by
  unfold cutS tl
  rw [HT.sIx_nat, HT.sIx_nat]
theorem cut_to (z : Str) (b : Nat) : tl (cutS z none (some (b : Int))) = (tl z).take b := by
  unfold cutS tl
  rw [HT.sIx_none, HT.sIx_nat]
  show (z.cps.toList.drop 0).take (min b z.length - 0) = _
  rw [List.drop_zero, Nat.sub_zero]
  by_cases h : b ≤ z.length
  · rw [Nat.min_eq_left h]
  · rw [Nat.min_eq_right (by omega), List.take_of_length_le (by rw [tl_len]; exact Nat.le_refl _), List.take_of_length_le (by rw [tl_len]; omega)]
theorem cut_from (z : Str) (a : Nat) : tl (cutS z (some (a : Int)) none) = (tl z).drop a := by
  unfold cutS tl
  rw [HT.sIx_none, HT.sIx_nat]
  show (z.cps.toList.drop (min a z.length)).take (z.length - min a z.length) = _
  by_cases h : a ≤ z.length
  · rw [Nat.min_eq_left h, List.take_of_length_le (by rw [List.length_drop, tl_len]; exact Nat.le_refl _)]
  · rw [Nat.min_eq_right (by omega), Nat.sub_self, List.take_zero, List.drop_of_length_le (by rw [tl_len]; omega)]
theorem joinL_flat : ∀ ls : List (List Nat), TL.joinL [] ls = ls.flatten
  | [] => rfl
  | [p] => by simp [TL.joinL]
  | p :: q :: r => by
    have h := joinL_flat (q :: r)
    simp only [TL.joinL, List.nil_append, h, List.flatten_cons]
theorem tl_joined {e : Str} (he : tl e = []) (ys : List Str) : tl (Txt.join e ys) = (ys.map tl).flatten := by
  have h1 : TL.tl (Txt.join e ys) = TL.joinL (TL.tl e) (ys.map TL.tl) := by rw [TL.join_eq, TL.tl_join]
  have h2 : TL.tl e = [] := he
  rw [h2, joinL_flat] at h1
  exact h1
/-- texts of one sign each, joined -/
theorem join_ones (cs : List Nat) : tl (Txt.join (Str.ofString "") (cs.map fun c => (⟨#[c]⟩ : Str))) = cs := by
  rw [tl_joined (by decide +kernel), List.map_map]
  induction cs with
  | nil => rfl
  | cons c cs ih => simp only [List.map_cons, List.flatten_cons, ih]; rfl
theorem sum_ones (cs : List Nat) : ((cs.map fun c => (⟨#[c]⟩ : Str)).map (·.length)).sum = cs.length := by
  induction cs with
  | nil => rfl
  | cons c cs ih => simp only [List.map_cons, List.sum_cons, ih, List.length_cons]; show 1 + _ = _; omega
theorem pick {z : Str} {r : Int} (h0 : 0 ≤ r) (h1 : r < (z.length : Int)) : ∃ c, atI z.cps.toList r = some c ∧ c ∈ tl z := by
  have h2 : r.toNat < z.cps.toList.length := by rw [Array.length_toList]; have : z.length = z.cps.size := rfl; omega
  have h3 : ((r.toNat : Nat) : Int) = r := by omega
  have h4 := atI_nat (List.getElem?_eq_getElem h2)
  rw [h3] at h4
  exact ⟨_, h4, List.getElem_mem h2⟩
theorem cutV_nat (xs : List V) {a b : Nat} (hab : a ≤ b) (hb : b ≤ xs.length) : cutV xs (some (a : Int)) (some (b : Int)) = (xs.drop a).take (b - a) := by
  unfold cutV
  rw [HT.sIx_nat, HT.sIx_nat, Nat.min_eq_left hb, Nat.min_eq_left (Nat.le_trans hab hb)]
def isL (x : Nat) : Bool := decide (97 ≤ x) && decide (x ≤ 122)
def letters : Str := Str.ofString "abcdefghijklmnopqrstuvwxyz"
theorem letters_L : ∀ c ∈ tl letters, isL c = true := by decide +kernel
theorem letters_len : letters.length = 26 := by decide +kernel
/-! the text -/
def topS (i : Nat) : Stmt := PySem.Challenge.pw_laidforall_k28_joint_rows_are_read.main.body.getD i (.Pass ⟨0, 0, 0, 0⟩)
abbrev sLetter : Stmt := topS 5
abbrev sIsWord : Stmt := topS 12
abbrev sPart : Stmt := topS 13
abbrev sRead : Stmt := topS 14
abbrev sSays : Stmt := topS 15
abbrev sFits : Stmt := topS 16
abbrev sInit : Stmt := inClass (topS 17) 0
abbrev sLen : Stmt := inClass (topS 17) 1
abbrev sIter : Stmt := inClass (topS 17) 2
abbrev sDec : Stmt := inClass (topS 17) 3
abbrev sIsJ : Stmt := inClass (topS 17) 4
abbrev sGaps : Stmt := inClass (topS 17) 5
abbrev sCall : Stmt := inClass (topS 17) 6
abbrev sCell : Stmt := topS 19
abbrev sRow : Stmt := topS 20
abbrev sSame : Stmt := topS 21
abbrev sLetters : Stmt := topS 22
abbrev sJoint : Stmt := topS 23
abbrev sWritten : Stmt := topS 24
abbrev sOdd : Stmt := topS 25
abbrev sLine : Stmt := topS 26
abbrev sLPart : Stmt := topS 27
abbrev sLWritten : Stmt := topS 28
abbrev sMade : Stmt := topS 29
abbrev sRefused : Stmt := topS 30
abbrev sLaw : Stmt := topS 31
abbrev sTLInit : Stmt := inClass (topS 2) 0
abbrev sBJInit : Stmt := inClass (topS 3) 0
structure Blt (mg : Str → Option Value) : Prop where
  len : mg "len" = none
  int : mg "int" = none
  str : mg "str" = none
  bool : mg "bool" = none
  tuple : mg "tuple" = none
  list : mg "list" = none
  range : mg "range" = none
  isi : mg "isinstance" = none
  sorted : mg "sorted" = none
  enumerate : mg "enumerate" = none
  zip : mg "zip" = none
  all : mg "all" = none
  iter : mg "iter" = none
  ve : mg "ValueError" = none
structure Cst (mg : Str → Option Value) (t1 t2 t3 t4 t5 : Tok) : Prop where
  g_MOST_JOINT_ROWS : mg "MOST_JOINT_ROWS" = some (.int 8 t1)
  g_LONGEST_PART : mg "LONGEST_PART" = some (.int 3 t2)
  g_ANY_LETTER : mg "ANY_LETTER" = some (.str (Str.ofString "?") t3)
  g_WORD_END : mg "WORD_END" = some (.str (Str.ofString ".") t4)
  g_FORBIDS : mg "FORBIDS" = some (.str (Str.ofString " no") t5)
theorem eQ : Str.ofString "?" = ⟨#[63]⟩ := by decide +kernel
theorem eD : Str.ofString "." = ⟨#[46]⟩ := by decide +kernel
theorem eDash : Str.ofString "-" = ⟨#[45]⟩ := by decide +kernel
section
variable {P : Program} {w : World} {K : PySem.W.Frag} {mg : Str → Option Value} {base : Heap}
/-! ### _law_cell -/
def spCell (K : PySem.W.Frag) : Sp := fun vs H Q _ => ∃ (a : Addr) (ns : List Int) (k : Int), vs = [.ref a, .int k] ∧ SqL K H a (ns.map V.int) ∧ ns.length ≤ 63 ∧ 0 ≤ k ∧ ∀ c, Q (.int c) H
theorem scCell : FnScope ["_law_script", "_law_k"] ["_law_script", "_law_k"] (defScope sCell) := ⟨rfl, rfl, rfl, by decide +kernel, rfl, by decide +kernel, by decide +kernel⟩
theorem ok_cell {f : Addr} {fd : FuncData} (B : Blt mg) (F : Fun K "_law_cell" "_law_cell" sCell f fd) : FnOk P w K mg base CX0 1 f fd ["_law_script", "_law_k"] (spCell K) := by
  refine F.ok scCell (fun vs H Q E h => ?_) (fun cdv A outer s H vs Q E hr h => ?_)
  · obtain ⟨a, ns, k, rfl, _⟩ := h; rfl
  · obtain ⟨a, ns, k, rfl, hS, hlen, h0, q⟩ := h
    refine ⟨_, pss_cons (ps_if (pt_cmpR op_lt (pv 1) (pe_callB call_len (by rfl) B.len PySem.boot_len (pa_cons (pv 0) pa_nil)) (nomark _)) (pss_one (ps_ret (pe_callTy call_int1 (by rfl) B.int (by decide +kernel) (pa_cons (pe_ix ix_list (pv 0) (pv 1) (fun _ _ => rfl)) pa_nil)))) pss_nil)
      (pss_one (ps_ret pe_int)), ?_⟩
    refine ⟨.int k, rfl, .ref a, rfl, .ref a, (ns.map V.int).length, rfl, .inl ⟨_, hS, rfl⟩, k, _, rfl, rfl, _, rfl, ite2 (fun hk => ?_) (fun _ => ?_)⟩
    · have hk' : k < ((ns.map V.int).length : Int) := of_decide_eq_true hk
      rw [List.length_map] at hk'
      have hlt : k.toNat < ns.length := by omega
      exact ⟨.ref a, rfl, .int k, rfl, a, _, k, .int (ns[k.toNat]'hlt), rfl, rfl, hS, at_of (j := k.toNat) (by omega) (by rw [List.getElem?_map]; simp [hlt]), .inl ⟨_, rfl, q _⟩⟩
    · exact q _
/-! ### _law_row -/
theorem map_snoc' (rs : List Int) (r : Int) : rs.map V.int ++ [V.int r] = (rs ++ [r]).map V.int := by rw [List.map_append]; rfl
def RowOf (ls rs : List Int) : Prop := rs.length = ls.length ∧ ∀ (i : Nat) (l : Int), ls[i]? = some l → ∃ r, rs[i]? = some r ∧ 0 ≤ r ∧ r < l
def spRow (K : PySem.W.Frag) : Sp := fun vs H Q _ => ∃ (c : Int) (a : Addr) (ls : List Int), vs = [.int c, .ref a] ∧ SqL K H a (ls.map V.int) ∧ ls.length ≤ 1000 ∧ (∀ l ∈ ls, 0 < l ∧ l < 1000000) ∧
  ∀ H' p rs, Same H H' → H p = none → H' p = some (.lst (rs.map V.int)) → RowOf ls rs → Q (.ref p) H'
theorem scRow : FnScope ["_law_cell_here", "_law_limits", "_law_row_here", "_law_rest", "_law_limit", "_law_k", "_law_mixed"] ["_law_cell_here", "_law_limits"] (defScope sRow) := ⟨rfl, rfl, rfl, by decide +kernel, rfl, by decide +kernel, by decide +kernel⟩
theorem ok_row {f : Addr} {fd : FuncData} (B : Blt mg) (F : Fun K "_law_row" "_law_row" sRow f fd) : FnOk P w K mg base CX0 1 f fd ["_law_cell_here", "_law_limits"] (spRow K) := by
  refine F.ok scRow (fun vs H Q E h => ?_) (fun cdv A outer s H vs Q E hr h => ?_)
  · obtain ⟨c, a, ls, rfl, _⟩ := h; rfl
  · obtain ⟨c, a, ls, rfl, hS, hlen, hpos, q⟩ := h
    refine ⟨_, (pss_cons (ps_set (i := 2) scRow.nd rfl (.inl rfl) (pe_lst pa_nil))
      (pss_cons (ps_if (pt_cmpR op_ge (pv 0) pe_int (nomark _))
      (pss_cons (ps_set (i := 3) scRow.nd rfl (.inl rfl) (pe_op op_sub (pv 0) pe_int))
       (pss_cons (ps_for (PassesOwn.never) rfl (pi_list (pv 1)) (pg_name (i := 4) scRow.nd rfl (.inl rfl))
       (pss_cons (ps_expr (pe_bm PySem.F.plainAttrs_list PySem.F.slot_list_append PySem.F.type_list_append mt_append (pv 2) (pa_cons (pe_op op_modN (pe_callTy call_int1 (by rfl) B.int (by decide +kernel) (pa_cons (pv 3) pa_nil)) (pv 4)) pa_nil)))
        (pss_one (ps_set (i := 3) scRow.nd rfl (.inl rfl) (pe_op op_fdivN (pv 3) (pv 4))))))
       (pss_one (ps_ret (pv 2)))))
      pss_nil)
      (pss_cons (ps_for (PassesOwn.never) rfl (pi_range1 (by rfl) B.range (pa_cons (pe_callB call_len (by rfl) B.len PySem.boot_len (pa_cons (pv 1) pa_nil)) pa_nil)) (pg_name (i := 5) scRow.nd rfl (.inl rfl))
      (pss_cons (ps_set (i := 6) scRow.nd rfl (.inl rfl) (pe_op op_modN (pe_callTy call_int1 (by rfl) B.int (by decide +kernel) (pa_cons (pe_op op_add (pe_op op_add (pe_op op_mul (pv 0) pe_int) (pe_op op_mul (pv 5) pe_int)) pe_int) pa_nil)) pe_int))
       (pss_cons (ps_set (i := 6) scRow.nd rfl (.inl rfl) (pe_op op_modN (pe_callTy call_int1 (by rfl) B.int (by decide +kernel) (pa_cons (pe_op op_add (pe_op op_add (pe_op op_mul (pv 6) (pe_op op_add pe_int (pe_op op_mul pe_int (pv 5)))) (pe_op op_mul (pe_op op_mul (pv 5) (pv 5)) pe_int)) pe_int) pa_nil)) pe_int))
       (pss_one (ps_expr (pe_bm PySem.F.plainAttrs_list PySem.F.slot_list_append PySem.F.type_list_append mt_append (pv 2) (pa_cons (pe_op op_modN (pe_callTy call_int1 (by rfl) B.int (by decide +kernel) (pa_cons (pe_op op_fdivN (pv 6) pe_int) pa_nil)) (pe_ix ix_list (pv 1) (pv 5) (fun _ _ => rfl))) pa_nil)))))))
      (pss_one (ps_ret (pv 2)))))), ?_⟩
    refine ⟨Nat.zero_le _, fun o no => ?_⟩
    have s1 : Same H (upd H o (.lst [])) := same_new no
    have eo : (upd H o (.lst [])) o = some (.lst (([] : List Int).map V.int)) := upd_same
    generalize upd H o (.lst []) = H1 at s1 eo ⊢
    have more : ∀ (n : Nat) (rs : List Int) (l : Int), ls[n]? = some l → rs.length = n → (∀ (i : Nat) (l : Int), i < n → ls[i]? = some l → ∃ r, rs[i]? = some r ∧ 0 ≤ r ∧ r < l) → ∀ x : Int, ∀ (i : Nat) (m : Int), i < n + 1 → ls[i]? = some m → ∃ r, (rs ++ [x.fmod l])[i]? = some r ∧ 0 ≤ r ∧ r < m := by
      intro n rs l hl hrs hrow x i m hi hm
      have hp := hpos l (List.mem_of_getElem? hl)
      by_cases hin : i < n
      · obtain ⟨r, h1, h2, h3⟩ := hrow i m hin hm
        exact ⟨r, by rw [List.getElem?_append_left (by omega)]; exact h1, h2, h3⟩
      · obtain rfl : i = n := by omega
        rw [hl] at hm; cases hm
        exact ⟨_, by rw [List.getElem?_append_right (by omega), hrs, Nat.sub_self]; rfl, Int.fmod_nonneg_of_pos _ hp.1, Int.fmod_lt_of_pos _ hp.1⟩
    refine ⟨.int c, rfl, c, 1000000000000000000, rfl, rfl, _, rfl, ite2 (fun _ => ?_) (fun _ => ?_)⟩
    · refine ⟨.int c, rfl, c, 1000000000000000000, rfl, rfl, .ref a, rfl, a, rfl, ⟨_, s1.seq hS⟩, for_list (K := K) (a := a) (xs := ls.map V.int) (fun n σ H' => ∃ (rest : Int) (y4 y5 y6 : Option V) (rs : List Int), σ = [some (.int c), some (.ref a), some (.ref o), some (.int rest), y4, y5, y6] ∧ Same H H' ∧ H' o = some (.lst (rs.map V.int)) ∧ rs.length = n ∧
        ∀ (i : Nat) (l : Int), i < n → ls[i]? = some l → ∃ r, rs[i]? = some r ∧ 0 ≤ r ∧ r < l) ⟨_, none, none, none, [], rfl, s1, eo, rfl, fun i l h => absurd h (Nat.not_lt_zero i)⟩ (fun n σ H' _ ⟨_, _, _, _, _, _, sm, _⟩ => sm.seq hS) ?_ ?_⟩
      · rintro n x σ H' hn ⟨rest, y4, y5, y6, rs, rfl, sm, ho, hl, hrow⟩
        rw [List.getElem?_map] at hn
        cases en : ls[n]? with
        | none => rw [en] at hn; cases hn
        | some l =>
        rw [en] at hn; cases hn
        have hp := hpos l (List.mem_of_getElem? en)
        have hlt := (List.getElem?_eq_some_iff.mp en).1
        have hsz : (rs.map V.int).length < sizeLine := by rw [List.length_map]; exact small1000 (by omega)
        refine ⟨.ref o, rfl, .inl ⟨rfl, _, SqL.of ho⟩, .int rest, rfl, .inl ⟨rest, rfl, .int l, rfl, rest, l, rfl, rfl, by omega, o, _, _, rfl, rfl, ho, hsz, ?_⟩⟩
        refine ⟨.int rest, rfl, .int l, rfl, rest, l, rfl, rfl, ⟨by omega, by omega⟩, ?_⟩
        exact ⟨_, _, _, _, _, rfl, same_at sm no, by rw [upd_same, map_snoc'], by rw [List.length_append, hl]; rfl, more n rs l en hl hrow rest⟩
      · rintro σ H' ⟨rest, y4, y5, y6, rs, rfl, sm, ho, hl, hrow⟩
        rw [List.length_map] at hl hrow
        exact ⟨.ref o, rfl, q H' o rs sm no ho ⟨hl, fun i l hli => hrow i l (List.getElem?_eq_some_iff.mp hli).1 hli⟩⟩
    · refine ⟨.ref a, rfl, .ref a, (ls.map V.int).length, rfl, .inl ⟨_, s1.seq hS, rfl⟩, ((ls.map V.int).length : Int), rfl, by omega, by rw [List.length_map]; omega, ?_⟩
      rw [Int.toNat_natCast, List.length_map]
      refine for_range (lo := 0) (n := ls.length) (fun n σ H' => ∃ (y3 y4 y5 y6 : Option V) (rs : List Int), σ = [some (.int c), some (.ref a), some (.ref o), y3, y4, y5, y6] ∧ Same H H' ∧ H' o = some (.lst (rs.map V.int)) ∧ rs.length = n ∧
        ∀ (i : Nat) (l : Int), i < n → ls[i]? = some l → ∃ r, rs[i]? = some r ∧ 0 ≤ r ∧ r < l) ⟨none, none, none, none, [], rfl, s1, eo, rfl, fun i l h => absurd h (Nat.not_lt_zero i)⟩ ?_ ?_
      · rintro n σ H' hn ⟨y3, y4, y5, y6, rs, rfl, sm, ho, hl, hrow⟩
        have e0 : (0 : Int) + (n : Int) = (n : Int) := by omega
        rw [e0]
        have hSn : SqL K H' a (ls.map V.int) := sm.seq hS
        have en : ls[n]? = some (ls[n]'hn) := by simp [hn]
        have hat : (ls.map V.int)[n]? = some (.int (ls[n]'hn)) := by rw [List.getElem?_map, en]; rfl
        have hp := hpos (ls[n]'hn) (List.getElem_mem hn)
        have hsz : (rs.map V.int).length < sizeLine := by rw [List.length_map]; exact small1000 (by omega)
        refine ⟨.int c, rfl, c, 48271, rfl, rfl, .inr ⟨by decide, by decide⟩, .int (n : Int), rfl, (n : Int), 69621, rfl, rfl, .inr ⟨by decide, by decide⟩, _, _, rfl, rfl, _, 11, rfl, rfl, .inl ⟨_, rfl, _, 2147483647, rfl, rfl, (show (2147483647 : Int) ≠ 0 by decide), ?_⟩⟩
        have hm0 : 0 ≤ (c * 48271 + (n : Int) * 69621 + 11).fmod 2147483647 := Int.fmod_nonneg_of_pos _ (by decide)
        have hm1 : (c * 48271 + (n : Int) * 69621 + 11).fmod 2147483647 < 2147483647 := Int.fmod_lt_of_pos _ (by decide)
        refine ⟨_, rfl, .int (n : Int), rfl, 2, (n : Int), rfl, rfl, .inl ⟨by decide, by decide⟩, 16807, _, rfl, rfl, (c * 48271 + (n : Int) * 69621 + 11).fmod 2147483647, _, rfl, rfl, .inl ⟨Int.lt_of_lt_of_le (by decide) hm0, Int.lt_trans hm1 (by decide)⟩, .int (n : Int), rfl, .int (n : Int), rfl, (n : Int), (n : Int), rfl, rfl, .inl ⟨by omega, by omega⟩, _, 40692, rfl, rfl, .inr ⟨by decide, by decide⟩, _, _, rfl, rfl, _, 7, rfl, rfl, .inl ⟨_, rfl, _, 2147483399, rfl, rfl, (show (2147483399 : Int) ≠ 0 by decide), ?_⟩⟩
        refine ⟨.ref o, rfl, .inl ⟨rfl, _, SqL.of ho⟩, _, rfl, _, 31, rfl, rfl, ⟨by decide, by decide⟩, .inl ⟨_, rfl, .ref a, rfl, .int (n : Int), rfl, a, _, (n : Int), .int (ls[n]'hn), rfl, rfl, hSn, atI_nat hat, _, ls[n]'hn, rfl, rfl, by omega, o, _, _, rfl, rfl, ho, hsz, ?_⟩⟩
        exact ⟨_, _, _, _, _, rfl, same_at sm no, by rw [upd_same, map_snoc'], by rw [List.length_append, hl]; rfl, more n rs _ en hl hrow _⟩
      · rintro σ H' ⟨y3, y4, y5, y6, rs, rfl, sm, ho, hl, hrow⟩
        exact ⟨.ref o, rfl, q H' o rs sm no ho ⟨hl, fun i l hli => hrow i l (List.getElem?_eq_some_iff.mp hli).1 hli⟩⟩
end
end K28

set_option maxRecDepth 100000
set_option maxHeartbeats 4000000
namespace K28
open PySem PySem.Spec PyProof.Rows L2 RJ
/-! ### parts -/
def PartOk (e : Int) (l : List Nat) : Prop := ∀ (i c : Nat), l[i]? = some c → isL c = true ∨ c = 63 ∨ (c = 46 ∧ (i : Int) = e)
theorem part_no {e : Int} {l : List Nat} (h : PartOk e l) {x : Nat} (hx : isL x = false) (h1 : x ≠ 63) (h2 : x ≠ 46) : x ∉ l := fun hm => by
  obtain ⟨i, hi⟩ := List.mem_iff_getElem?.mp hm
  rcases h i x hi with h | h | h
  · rw [hx] at h; cases h
  · exact h1 h
  · exact h2 h.1
def noL (b : Bool) : List Nat := if b then [32, 110, 111] else []
/-- the written row -/
def wrt (l r : List Nat) (b : Bool) : List Nat := l ++ 45 :: (r ++ noL b)
section
variable {P : Program} {w : World} {K : PySem.W.Frag} {mg : Str → Option Value} {base : Heap} {t1 t2 t3 t4 t5 : Tok}
/-! ### is_letter -/
def spLet : Sp := fun vs H Q _ => ∃ (x : Nat), vs = [.str ⟨#[x]⟩] ∧ Q (.bl (isL x)) H
theorem scLetter : FnScope ["char"] ["char"] (defScope sLetter) := ⟨rfl, rfl, rfl, by decide +kernel, rfl, by decide +kernel, by decide +kernel⟩
theorem ok_letter {f : Addr} {fd : FuncData} (F : Fun K "is_letter" "is_letter" sLetter f fd) : FnOk P w K mg base CX0 1 f fd ["char"] spLet := by
  refine F.ok scLetter (fun vs H Q E h => ?_) (fun cdv A outer s H vs Q E hr h => ?_)
  · obtain ⟨c, rfl, _⟩ := h; rfl
  · obtain ⟨x, rfl, q⟩ := h
    refine ⟨_, pss_one (ps_ret (pe_chain op_le_str op_le_str pe_str (pv 0) pe_str)), ?_⟩
    refine ⟨.str ⟨#[x]⟩, rfl, _, ⟨#[x]⟩, rfl, rfl, _, rfl, ?_⟩
    have hc : (⟨#[x]⟩ : Str).cps.toList = [x] := rfl
    have e : (!decide ((⟨#[x]⟩ : Str).cps.toList < (Str.ofString "a").cps.toList)) = decide (97 ≤ x) := by rw [hc, show (Str.ofString "a").cps.toList = [97] by decide +kernel, lt_one, Bool.not_not]
    have e2 : (!decide ((Str.ofString "z").cps.toList < (⟨#[x]⟩ : Str).cps.toList)) = decide (x ≤ 122) := by rw [hc, show (Str.ofString "z").cps.toList = [122] by decide +kernel, lt_one, Bool.not_not]
    rw [e]
    refine ite2 (fun h => ?_) (fun h => ?_)
    · refine ⟨⟨#[x]⟩, _, rfl, rfl, ?_⟩
      rw [e2]; unfold isL at q; rw [h, Bool.true_and] at q; exact q
    · have h' : decide (97 ≤ x) = false := by simpa using h
      unfold isL at q; rw [h', Bool.false_and] at q; exact q
/-! ### _is_part -/
/-- a sign of a part; a dot only at e -/
def chB (e : Int) (i c : Nat) : Bool := isL c || (decide (c = 63) || (decide (c = 46) && decide ((i : Int) = e)))
def allB (e : Int) : Nat → List Nat → Bool
  | _, [] => true
  | i, c :: cs => chB e i c && allB e (i + 1) cs
def partB (e : Int) (l : List Nat) : Bool := decide (l.length ≤ 3) && allB e 0 l
theorem allB_drop {e : Int} : ∀ {l : List Nat} {i n c : Nat}, l[i]? = some c → allB e (n + i) (l.drop i) = (chB e (n + i) c && allB e (n + i + 1) (l.drop (i + 1)))
  | [], i, n, c, h => by simp at h
  | x :: xs, 0, n, c, h => by simp at h; subst h; rfl
  | x :: xs, i + 1, n, c, h => by
    have h' : xs[i]? = some c := by simpa using h
    have := allB_drop (e := e) (n := n + 1) h'
    rw [show n + (i + 1) = n + 1 + i by omega]
    exact this
theorem allB_at {e : Int} {l : List Nat} {i c : Nat} (h : l[i]? = some c) : allB e i (l.drop i) = (chB e i c && allB e (i + 1) (l.drop (i + 1))) := by
  have := allB_drop (e := e) (n := 0) h
  rw [Nat.zero_add] at this; exact this
def spPart : Sp := fun vs H Q _ => ∃ (z : Str) (e : Int), vs = [.str z, .int e] ∧ z.length ≤ 100 ∧ ∀ H', Same H H' → Q (.bl (partB e (tl z))) H'
theorem scPart : FnScope ["text", "end", "at", "char"] ["text", "end"] (defScope sPart) := ⟨rfl, rfl, rfl, by decide +kernel, rfl, by decide +kernel, by decide +kernel⟩
theorem ok_part {f f_is_letter : Addr} {fd fd_is_letter : FuncData} (B : Blt mg) (Z : Cst mg t1 t2 t3 t4 t5) (F : Fun K "_is_part" "_is_part" sPart f fd)
    (F_is_letter : Fun K "is_letter" "is_letter" sLetter f_is_letter fd_is_letter) (b_is_letter : Binds K fd_is_letter ["char"] []) (g_is_letter : mg "is_letter" = some (.ref f_is_letter)) :
    FnOk P w K mg base CX0 2 f fd ["text", "end"] spPart := by
  have G_is_letter : FnOk P w K mg base CX0 1 f_is_letter fd_is_letter ["char"] spLet := ok_letter F_is_letter
  refine F.ok scPart (fun vs H Q E h => ?_) (fun cdv A0 outer s H vs Q E hr h => ?_)
  · obtain ⟨z, e, rfl, _⟩ := h; rfl
  · obtain ⟨z, e, rfl, hl, q⟩ := h
    refine ⟨_, (pss_cons (ps_if (pt_cmpR op_gt (pe_callB call_len (by rfl) B.len PySem.boot_len (pa_cons (pv 0) pa_nil)) (pe_glob (v := .int 3) (by rfl) Z.g_LONGEST_PART ⟨_, rfl⟩) (nomark _))
      (pss_one (ps_ret pe_bl))
      pss_nil)
      (pss_cons (ps_for (PassesOwn.never) rfl (pi_enumS (by rfl) B.enumerate (pa_cons (pv 0) pa_nil)) (pg_tup rfl (pgs_cons (pg_name (i := 2) scPart.nd rfl (.inl rfl)) (pgs_cons (pg_name (i := 3) scPart.nd rfl (.inl rfl)) pgs_nil)))
      (pss_one (ps_if (PW.pt (pw_and (pt_cmpR op_ne (pv 3) (pe_glob (v := .str (Str.ofString "?")) (by rfl) Z.g_ANY_LETTER ⟨_, rfl⟩) (nomark _)) (pw_and (pt_not (pt_val (pe_call G_is_letter hr (by rfl) g_is_letter F_is_letter.kp b_is_letter .nil pass0 (pa_cons (pv 3) pa_nil)))) (pw_and1 (PW.pt (pw_or (pt_cmpR op_ne (pv 3) (pe_glob (v := .str (Str.ofString ".")) (by rfl) Z.g_WORD_END ⟨_, rfl⟩) (nomark _)) (pw_or1 (pt_cmpR op_ne (pv 2) (pv 1) (nomark _)))))))))
       (pss_one (ps_ret pe_bl))
       pss_nil)))
      (pss_one (ps_ret pe_bl)))), ?_⟩
    refine ⟨.str z, rfl, .str z, z.length, rfl, ⟨Nat.le_trans hl (by decide), rfl⟩, _, 3, rfl, rfl, _, rfl, ?_⟩
    have hzt := tl_len z
    by_cases h3 : z.length ≤ 3
    · rw [decide_eq_false (by omega)]
      have hpb : partB e (tl z) = allB e 0 (tl z) := by unfold partB; rw [decide_eq_true (by omega), Bool.true_and]
      rw [hpb] at q
      refine iteF ⟨.str z, rfl, z, rfl, ?_⟩
      refine for_enumS (fun i σ H' => ∃ y2 y3, σ = [some (.str z), some (.int e), y2, y3] ∧ Same H H' ∧ allB e 0 (tl z) = allB e i ((tl z).drop i)) ⟨none, none, rfl, Same.refl _, rfl⟩ ?_ ?_
      · rintro i c T σ H' hc ⟨y2, y3, rfl, sm, hall⟩ nT
        have hc' : (tl z)[i]? = some c := by simpa [tl] using hc
        rw [allB_at hc'] at hall
        refine ⟨T, _, rfl, SqT.of upd_same, rfl, .int (i : Nat), _, rfl, .str ⟨#[c]⟩, _, rfl, rfl, ?_⟩
        have s2 := same_new2 (o := .tup [.int (i : Nat), .str ⟨#[c]⟩]) sm nT
        have go : chB e i c = true → ∃ y2 y3, ([some (V.str z), some (V.int e), some (V.int (i : Nat)), some (V.str ⟨#[c]⟩)] : L2.St) = [some (.str z), some (.int e), y2, y3] ∧ Same H (upd H' T (.tup [.int (i : Nat), .str ⟨#[c]⟩])) ∧ allB e 0 (tl z) = allB e (i + 1) ((tl z).drop (i + 1)) := fun h => ⟨_, _, rfl, s2, by rw [hall, h, Bool.true_and]⟩
        have no : chB e i c = false → Q (.bl false) (upd H' T (.tup [.int (i : Nat), .str ⟨#[c]⟩])) := fun h => by
          have h2 := q _ s2
          rw [hall, h, Bool.false_and] at h2; exact h2
        unfold chB at go no
        refine ⟨.str ⟨#[c]⟩, rfl, rfl, _, rfl, ?_⟩
        rw [eQ, eqS]
        refine ite2 (fun h1 => ⟨.str ⟨#[c]⟩, rfl, c, rfl, _, rfl, ?_⟩) (fun h1 => go ?_)
        · have f1 : ¬ c = 63 := by simpa using h1
          refine ite2 (fun h2 => ?_) (fun h2 => go ?_)
          · have f2 : isL c = false := by simpa using h2
            rw [f2, decide_eq_false f1, Bool.false_or, Bool.false_or] at go no
            refine ⟨.str ⟨#[c]⟩, rfl, rfl, _, rfl, ?_⟩
            rw [eD, eqS]
            refine ite2 (fun h3 => iteT (no ?_)) (fun h3 => ?_)
            · have f3 : ¬ c = 46 := by simpa using h3
              rw [decide_eq_false f3]; rfl
            · have f3 : c = 46 := by simpa using h3
              rw [decide_eq_true f3, Bool.true_and] at go no
              refine ⟨.int (i : Nat), rfl, .int e, rfl, rfl, _, rfl, ?_⟩
              rw [eqI]
              refine ite2 (fun h4 => no (by simpa using h4)) (fun h4 => go (by simpa using h4))
          · have f2 : isL c = true := by simpa using h2
            rw [f2]; rfl
        · have f1 : c = 63 := by simpa using h1
          rw [decide_eq_true f1, Bool.true_or, Bool.or_true]
      · rintro σ H' ⟨y2, y3, rfl, sm, hall⟩
        have hd : (tl z).drop z.cps.size = [] := List.drop_eq_nil_of_le (by simp [tl])
        have h2 := q H' sm
        rw [hall, hd] at h2
        exact h2
    · rw [decide_eq_true (by omega)]
      have hpb : partB e (tl z) = false := by unfold partB; rw [decide_eq_false (by omega)]; rfl
      have h2 := q H (Same.refl _)
      rw [hpb] at h2
      exact iteT h2
end
/-! ### what a row is -/
def lhs (l : List Nat) : List Nat := l.takeWhile fun c => decide (c ≠ 45)
def rhs (l : List Nat) : List Nat := (l.dropWhile fun c => decide (c ≠ 45)).drop 1
def noS : List Nat := [32, 110, 111]
def endNo (l : List Nat) : Bool := decide (l.drop (l.length - 3) = noS)
def cutNo (l : List Nat) : List Nat := if endNo l = true then l.take (l.length - 3) else l
def okB (l r : List Nat) : Bool := partB 0 l && partB ((r.length : Int) - 1) r
/-- as the program reads -/
def rdB (l : List Nat) : Bool := decide (45 ∈ l) && okB (lhs l) (cutNo (rhs l))
/-- as the law reads -/
def lwB (l : List Nat) : Bool := decide (45 ∈ cutNo l) && okB (lhs (cutNo l)) (rhs (cutNo l))
theorem split_dash {l : List Nat} (h : 45 ∈ l) : l = lhs l ++ 45 :: rhs l ∧ 45 ∉ lhs l := by
  unfold lhs rhs
  induction l with
  | nil => simp at h
  | cons c l ih =>
    by_cases hc : c = 45
    · subst hc; simp
    · have h2 : 45 ∈ l := (List.mem_cons.mp h).resolve_left (Ne.symm hc)
      obtain ⟨i1, i2⟩ := ih h2
      rw [List.takeWhile_cons, List.dropWhile_cons, if_pos (decide_eq_true hc), if_pos (decide_eq_true hc)]
      refine ⟨by rw [List.cons_append, ← i1], fun hm => ?_⟩
      rcases List.mem_cons.mp hm with e | e
      · exact hc e.symm
      · exact i2 e
theorem of_split {a b : List Nat} (h : 45 ∉ a) : lhs (a ++ 45 :: b) = a ∧ rhs (a ++ 45 :: b) = b := by
  unfold lhs rhs
  induction a with
  | nil => simp
  | cons c a ih =>
    have hc : c ≠ 45 := fun e => h (by rw [e]; exact List.mem_cons_self)
    obtain ⟨i1, i2⟩ := ih fun e => h (List.mem_cons_of_mem _ e)
    rw [List.cons_append, List.takeWhile_cons, List.dropWhile_cons, if_pos (decide_eq_true hc), if_pos (decide_eq_true hc)]
    exact ⟨by rw [i1], i2⟩
theorem endNo_app {m : List Nat} : endNo (m ++ noS) = true := by
  unfold endNo
  refine decide_eq_true ?_
  rw [List.length_append, show noS.length = 3 from rfl, Nat.add_sub_cancel, List.drop_left]
theorem cut_app {m : List Nat} : cutNo (m ++ noS) = m := by
  unfold cutNo
  rw [if_pos endNo_app, List.length_append, show noS.length = 3 from rfl, Nat.add_sub_cancel, List.take_left]
theorem endNo_iff {l : List Nat} : endNo l = true ↔ ∃ m, l = m ++ noS := by
  constructor
  · intro h
    have h := of_decide_eq_true h
    exact ⟨l.take (l.length - 3), by rw [← h, List.take_append_drop]⟩
  · rintro ⟨m, rfl⟩; exact endNo_app
theorem read_eq (l : List Nat) : lwB l = rdB l := by
  by_cases hE : endNo l = true
  · obtain ⟨m, rfl⟩ := endNo_iff.mp hE
    have hm : decide (45 ∈ m ++ noS) = decide (45 ∈ m) := decide_eq_decide.mpr ⟨fun h => (List.mem_append.mp h).resolve_right (by decide), fun h => List.mem_append_left _ h⟩
    unfold lwB rdB
    rw [cut_app, hm]
    by_cases h45 : 45 ∈ m
    · obtain ⟨e, hn⟩ := split_dash h45
      have e2 : m ++ noS = lhs m ++ 45 :: (rhs m ++ noS) := by
        have : (lhs m ++ 45 :: rhs m) ++ noS = lhs m ++ 45 :: (rhs m ++ noS) := by simp
        rw [← this, ← e]
      obtain ⟨e3, e4⟩ := of_split (b := rhs m ++ noS) hn
      rw [e2, e3, e4, cut_app]
    · rw [decide_eq_false h45]; rfl
  · have hcut : cutNo l = l := if_neg hE
    unfold lwB rdB
    rw [hcut]
    by_cases h45 : 45 ∈ l
    · obtain ⟨e, hn⟩ := split_dash h45
      have hr : cutNo (rhs l) = rhs l := by
        refine if_neg fun h => hE ?_
        obtain ⟨m, hm⟩ := endNo_iff.mp h
        rw [endNo_iff, e, hm]
        exact ⟨lhs l ++ 45 :: m, by simp⟩
      rw [hr]
    · rw [decide_eq_false h45]; rfl
end K28

set_option maxRecDepth 100000
set_option maxHeartbeats 4000000
namespace K28
open PySem PySem.Spec PyProof.Rows L2 RJ
theorem tl_dash : tl (Str.ofString "-") = [45] := by decide +kernel
theorem tl_no : tl (Str.ofString " no") = noS := by decide +kernel
def mkS (l : List Nat) : Str := ⟨l.toArray⟩
theorem tl_mk (l : List Nat) : tl (mkS l) = l := rfl
theorem mk_tl (z : Str) : mkS (tl z) = z := str_eq rfl
theorem mk_len (l : List Nat) : (mkS l).length = l.length := by rw [← tl_len, tl_mk]
theorem part_dash {z : Str} (h : 45 ∈ tl z) : Txt.partition z (Str.ofString "-") = (mkS (lhs (tl z)), Str.ofString "-", mkS (rhs (tl z))) := by
  obtain ⟨e, hn⟩ := split_dash h
  have e2 : z = mkS (lhs (tl z)) ++ Str.ofString "-" ++ mkS (rhs (tl z)) := str_eq (by rw [tl_add, tl_add, tl_mk, tl_mk, tl_dash, List.append_assoc]; exact e)
  have h2 := TL.partition_app (y := Str.ofString "-") (s := 45) (S := []) tl_dash (a := mkS (lhs (tl z))) (b := mkS (rhs (tl z))) hn
  rw [← e2] at h2; exact h2
theorem part_nodash {z : Str} (h : 45 ∉ tl z) : Txt.partition z (Str.ofString "-") = (z, Str.empty, Str.empty) := TL.partition_none (y := Str.ofString "-") (s := 45) (S := []) tl_dash h
theorem suffix_no (z : Str) : tl (Txt.removesuffix z (Str.ofString " no")) = cutNo (tl z) := by
  rw [PySem.StrLaws.removesuffix_eq]
  have hsl : (Str.ofString " no").length = 3 := by decide +kernel
  have hzl := tl_len z
  rw [hsl]
  have hb : (decide (0 + 3 ≤ z.length) && Builtin.Str.subAt z (Str.ofString " no") (z.length - 3)) = endNo (tl z) := by
    have hat : PySem.StrLaws.At z (Str.ofString " no") z.length (z.length - 3) ↔ TL.pre noS ((tl z).drop (z.length - 3)) = true := by
      have := TL.at_iff (x := z) (y := Str.ofString " no") (by rw [show TL.tl (Str.ofString " no") = noS from tl_no]; decide) (z.length - 3)
      rw [show TL.tl (Str.ofString " no") = noS from tl_no] at this
      exact this
    by_cases h3 : 3 ≤ z.length
    · rw [decide_eq_true (by omega), Bool.true_and]
      have hdl : ((tl z).drop (z.length - 3)).length = 3 := by rw [List.length_drop]; omega
      have hpe : TL.pre noS ((tl z).drop (z.length - 3)) = true ↔ (tl z).drop (z.length - 3) = noS := by
        generalize (tl z).drop (z.length - 3) = m at hdl
        match m, hdl with
        | [x, y, w], _ => simp [TL.pre, noS]
      have hen : endNo (tl z) = true ↔ (tl z).drop (z.length - 3) = noS := by
        unfold endNo; rw [hzl]; exact decide_eq_true_iff
      have ha : Builtin.Str.subAt z (Str.ofString " no") (z.length - 3) = true ↔ PySem.StrLaws.At z (Str.ofString " no") z.length (z.length - 3) := by
        constructor
        · intro h; exact ⟨by rw [hsl]; omega, h⟩
        · intro h; exact h.2
      rw [Bool.eq_iff_iff, ha, hat, hpe, hen]
    · rw [decide_eq_false (by omega), Bool.false_and]
      symm
      unfold endNo
      refine decide_eq_false fun h => ?_
      have := congrArg List.length h
      rw [List.length_drop] at this
      have e : noS.length = 3 := rfl
      omega
  rw [hb]
  unfold cutNo
  cases h : endNo (tl z) with
  | true =>
    rw [if_pos rfl, if_pos rfl]
    show ((tl z).drop 0).take (z.length - 3 - 0) = _
    rw [List.drop_zero, Nat.sub_zero, hzl]
  | false => rw [if_neg Bool.false_ne_true, if_neg Bool.false_ne_true]
theorem cutNo_len (l : List Nat) : (cutNo l).length ≤ l.length := by
  unfold cutNo; split
  · rw [List.length_take]; exact Nat.min_le_right _ _
  · exact Nat.le_refl _
theorem pre_dash (l : List Nat) (i : Nat) : TL.pre [45] (l.drop i) = true ↔ l[i]? = some 45 := by
  cases h : l.drop i with
  | nil =>
    have : l.length ≤ i := by simpa using h
    rw [List.getElem?_eq_none this]; simp [TL.pre]
  | cons c r =>
    have : l[i]? = some c := by
      have := congrArg (fun x : List Nat => x[0]?) h
      simpa using this
    rw [this]; simp [TL.pre]
theorem find_dash (z : Str) : (45 ∉ tl z → Txt.find z (Str.ofString "-") = -1) ∧ (45 ∈ tl z → Txt.find z (Str.ofString "-") = ((lhs (tl z)).length : Int)) := by
  have hat : ∀ i, PySem.StrLaws.At z (Str.ofString "-") z.length i ↔ (tl z)[i]? = some 45 := fun i => by
    have := TL.at_iff (x := z) (y := Str.ofString "-") (by rw [show TL.tl (Str.ofString "-") = [45] from tl_dash]; decide) i
    rw [show TL.tl (Str.ofString "-") = [45] from tl_dash] at this
    rw [this]; exact pre_dash _ _
  constructor
  · intro hn
    rcases PyProof.Rows.find_whole z (Str.ofString "-") with ⟨h, _⟩ | ⟨i, _, h2, _⟩
    · exact h
    · exact absurd (List.mem_of_getElem? ((hat i).mp h2)) hn
  · intro hm
    obtain ⟨e, hn⟩ := split_dash hm
    have at_ : (tl z)[(lhs (tl z)).length]? = some 45 := by
      rw [e, (of_split hn).1, List.getElem?_append_right (Nat.le_refl _), Nat.sub_self]; rfl
    have no_ : ∀ k, k < (lhs (tl z)).length → (tl z)[k]? ≠ some 45 := fun k hk h => by
      rw [e, List.getElem?_append_left hk] at h
      exact hn (List.mem_of_getElem? h)
    rcases PyProof.Rows.find_whole z (Str.ofString "-") with ⟨_, h⟩ | ⟨i, h1, h2, h3⟩
    · exact absurd ((hat _).mpr at_) (h _)
    · rw [h1]
      have h2' := (hat i).mp h2
      rcases Nat.lt_trichotomy i (lhs (tl z)).length with hl | hl | hl
      · exact absurd h2' (no_ i hl)
      · rw [hl]
      · exact absurd ((hat _).mpr at_) (h3 _ hl)
section
variable {P : Program} {w : World} {K : PySem.W.Frag} {mg : Str → Option Value} {base : Heap} {t1 t2 t3 t4 t5 : Tok}
/-! ### the errors -/
def spEI (K : PySem.W.Frag) (C : Addr) (fld : Str) : Sp := fun vs H Q _ => ∃ (a : Addr) (v : V), vs = [.ref a, v] ∧ H a = some (exo a C none) ∧ OexC K C ∧ PySem.W.findIn K (.ref C) fld = some none ∧
  ∀ d, H d = none → d ≠ a → Q .non (upd (upd H d (exd d [(fld, v)])) a (exo a C (some d)))
theorem heap_err {H : Hp} {a d C : Addr} {v : V} {fld : Str} (ha : H a = none) (hd : H d = none) (hne : d ≠ a) :
    upd (del (upd (upd (upd H a (exo a C none)) d (exd d [(fld, v)])) a (exo a C (some d))) a) d (.xd [(fld, v)]) = upd H d (.xd [(fld, v)]) := by
  funext b
  by_cases h1 : b = d
  · subst h1; rw [upd_same, upd_same]
  · rw [upd_ne h1, upd_ne h1]
    by_cases h2 : b = a
    · subst h2; rw [del_same, ha]
    · rw [del_ne h2, upd_ne h2, upd_ne h1, upd_ne h2]
theorem raise_err {C : Addr} {v : V} {H : Hp} {Q : XK} {fld : Str} (o : OexC K C) (fp : PySem.W.findIn K (.ref C) fld = some none) (q : ∀ d, H d = none → Q (.ref C) (some d) (upd H d (.xd [(fld, v)]))) :
    [v].length ≤ 1000 ∧ ∀ a, H a = none → spEI K C fld (.ref a :: ([v] ++ [])) (upd H a (exo a C none))
      (fun u H2 => u = .non ∧ ∃ (d : Addr) (fs : List (Str × V)), H2 a = some (exo a C (some d)) ∧ H2 d = some (exd d fs) ∧ H d = none ∧ Q (.ref C) (some d) (upd (del H2 a) d (.xd fs))) (fun _ _ _ => False) := by
  refine ⟨by show 1 ≤ 1000; decide, fun a ha => ⟨a, v, rfl, upd_same, o, fp, fun d h1 hne => ⟨rfl, d, [(fld, v)], upd_same, ?_, ?_, ?_⟩⟩⟩
  · rw [upd_ne hne, upd_same]
  · rw [upd_ne hne] at h1; exact h1
  · rw [upd_ne hne] at h1
    rw [heap_err ha h1 hne]; exact q d h1

theorem scTooLI : FnScope ["self", "many"] ["self", "many"] (defScope sTLInit) := ⟨rfl, rfl, rfl, by decide +kernel, rfl, by decide +kernel, by decide +kernel⟩
structure TooL (K : PySem.W.Frag) (mg : Str → Option Value) (C fI : Addr) (fd : FuncData) : Prop where
  gC : mg "TooLarge" = some (.ref C)
  oex : OexC K C
  fp : PySem.W.findIn K (.ref C) "many" = some none
  iC : PySem.W.findIn K (.ref C) "__init__" = some (some (.ref fI))
  tI : PySem.W.typeIn K (.ref fI) = some (.type "function")
  F : Fun K "__init__" "TooLarge.__init__" sTLInit fI fd
  b : Binds K fd ["self", "many"] []
def spTooLI (K : PySem.W.Frag) (C : Addr) : Sp := spEI K C "many"
theorem ok_TooLI {f C : Addr} {fd : FuncData} (F : Fun K "__init__" "TooLarge.__init__" sTLInit f fd) : FnOk P w K mg base CX0 1 f fd ["self", "many"] (spTooLI K C) := by
  refine F.ok scTooLI (fun vs H Q E h => ?_) (fun cdv A outer s H vs Q E hr h => ?_)
  · obtain ⟨a, v, rfl, _⟩ := h; rfl
  · obtain ⟨a, v, rfl, ha, o, fp, q⟩ := h
    refine ⟨_, pss_one (ps_ost (pv 0) (pv 1)), ?_⟩
    exact ⟨_, rfl, _, rfl, a, C, rfl, o, fp, .inl ⟨ha, fun dx h1 h2 => q dx h1 h2⟩⟩

theorem scBadJI : FnScope ["self", "text"] ["self", "text"] (defScope sBJInit) := ⟨rfl, rfl, rfl, by decide +kernel, rfl, by decide +kernel, by decide +kernel⟩
structure BadJ (K : PySem.W.Frag) (mg : Str → Option Value) (C fI : Addr) (fd : FuncData) : Prop where
  gC : mg "BadJoint" = some (.ref C)
  oex : OexC K C
  fp : PySem.W.findIn K (.ref C) "text" = some none
  iC : PySem.W.findIn K (.ref C) "__init__" = some (some (.ref fI))
  tI : PySem.W.typeIn K (.ref fI) = some (.type "function")
  F : Fun K "__init__" "BadJoint.__init__" sBJInit fI fd
  b : Binds K fd ["self", "text"] []
def spBadJI (K : PySem.W.Frag) (C : Addr) : Sp := spEI K C "text"
theorem ok_BadJI {f C : Addr} {fd : FuncData} (F : Fun K "__init__" "BadJoint.__init__" sBJInit f fd) : FnOk P w K mg base CX0 1 f fd ["self", "text"] (spBadJI K C) := by
  refine F.ok scBadJI (fun vs H Q E h => ?_) (fun cdv A outer s H vs Q E hr h => ?_)
  · obtain ⟨a, v, rfl, _⟩ := h; rfl
  · obtain ⟨a, v, rfl, ha, o, fp, q⟩ := h
    refine ⟨_, pss_one (ps_ost (pv 0) (pv 1)), ?_⟩
    exact ⟨_, rfl, _, rfl, a, C, rfl, o, fp, .inl ⟨ha, fun dx h1 h2 => q dx h1 h2⟩⟩

/-! ### _read_joint -/
def spRead (CJ : Addr) : Sp := fun vs H Q E => ∃ (z : Str), vs = [.str z] ∧ z.length ≤ 100 ∧ (rdB (tl z) = false → ∀ H1 d, Same H H1 → H1 d = none → E (.ref CJ) (some d) (upd H1 d (.xd [("text", .str z)]))) ∧
  (rdB (tl z) = true → ∀ H' p, Same H H' → Q (.ref p) H')
theorem scRead : FnScope ["line", "left", "dash", "tail", "right"] ["line"] (defScope sRead) := ⟨rfl, rfl, rfl, by decide +kernel, rfl, by decide +kernel, by decide +kernel⟩
theorem ok_read {CJ fI f f_is_letter f_is_part : Addr} {fdI fd fd_is_letter fd_is_part : FuncData} (B : Blt mg) (Z : Cst mg t1 t2 t3 t4 t5) (N : BadJ K mg CJ fI fdI) (F : Fun K "_read_joint" "_read_joint" sRead f fd)
    (F_is_letter : Fun K "is_letter" "is_letter" sLetter f_is_letter fd_is_letter) (b_is_letter : Binds K fd_is_letter ["char"] []) (g_is_letter : mg "is_letter" = some (.ref f_is_letter))
    (F_is_part : Fun K "_is_part" "_is_part" sPart f_is_part fd_is_part) (b_is_part : Binds K fd_is_part ["text", "end"] []) (g_is_part : mg "_is_part" = some (.ref f_is_part)) :
    FnOk P w K mg base (L2.CX P w) 3 f fd ["line"] (spRead CJ) := by
  have G_is_part : FnOk P w K mg base CX0 2 f_is_part fd_is_part ["text", "end"] spPart := ok_part B Z F_is_part F_is_letter b_is_letter g_is_letter
  have GI : FnOk P w K mg base CX0 1 fI fdI ["self", "text"] (spEI K CJ "text") := ok_BadJI N.F
  refine F.okX scRead (fun vs H Q E h => ?_) (fun cdv A0 outer s H vs Q E hr h => ?_)
  · obtain ⟨z, rfl, _⟩ := h; rfl
  · obtain ⟨z, rfl, hzl, qe, q⟩ := h
    have hr2 : Room 2 _ := hr
    refine ⟨_, (pss_cons (ps_asg (pe_partition (pv 0) pe_str) (pg_tup rfl (pgs_cons (pg_name (i := 1) scRead.nd rfl (.inl rfl)) (pgs_cons (pg_name (i := 2) scRead.nd rfl (.inl rfl)) (pgs_cons (pg_name (i := 3) scRead.nd rfl (.inl rfl)) pgs_nil)))))
      (pss_cons (ps_set (i := 4) scRead.nd rfl (.inl rfl) (pe_m1 PySem.F.slot_str_removesuffix PySem.F.type_str_removesuffix mt_removesuffix (pv 3) (pe_glob (v := .str (Str.ofString " no")) (by rfl) Z.g_FORBIDS ⟨_, rfl⟩)))
      (pss_cons (ps_if (PW.pt (pw_or (pt_cmpR op_eq (pv 2) pe_str (nomark _)) (pw_or (pt_not (pt_val (pe_call G_is_part hr (by rfl) g_is_part F_is_part.kp b_is_part .nil pass0 (pa_cons (pv 1) (pa_cons pe_int pa_nil))))) (pw_or1 (pt_not (pt_val (pe_call G_is_part hr (by rfl) g_is_part F_is_part.kp b_is_part .nil pass0 (pa_cons (pv 4) (pa_cons (pe_op op_sub (pe_callB call_len (by rfl) B.len PySem.boot_len (pa_cons (pv 4) pa_nil)) pe_int) pa_nil)))))))))
      (pss_one (ps_raise rfl (takes_of rfl rfl rfl rfl) (pmk_oex N.oex N.iC N.tI GI hr2 N.b .nil pass0 (by rfl) N.gC (pa_cons (pv 0) pa_nil))))
      pss_nil)
      (pss_one (ps_ret (pe_tup (pa_cons (pv 1) (pa_cons (pv 4) (pa_cons (pe_cmpR op_ne (pv 4) (pv 3) (nomark _)) pa_nil))))))))), ?_⟩
    have hzt := tl_len z
    refine ⟨.str z, rfl, ⟨z, rfl⟩, z, Str.ofString "-", rfl, rfl, by decide +kernel, Nat.le_trans hzl (by decide), fun p np => ?_⟩
    by_cases h45 : 45 ∈ tl z
    · rw [part_dash h45]
      have e2 := congrArg List.length (split_dash h45).1
      rw [List.length_append, List.length_cons] at e2
      generalize hl : mkS (lhs (tl z)) = l
      generalize ht : mkS (rhs (tl z)) = t
      have ll : l.length ≤ 100 := by rw [← hl, mk_len]; omega
      have tt : t.length ≤ 100 := by rw [← ht, mk_len]; omega
      have s1 : Same H (upd H p (.tup [.str l, .str (Str.ofString "-"), .str t])) := same_new np
      refine ⟨p, _, rfl, SqT.of upd_same, rfl, .str l, _, rfl, .str (Str.ofString "-"), _, rfl, .str t, _, rfl, rfl, ?_⟩
      generalize upd H p (.tup [.str l, .str (Str.ofString "-"), .str t]) = H1 at s1 ⊢
      refine ⟨.str t, rfl, ⟨_, rfl⟩, _, _, rfl, rfl, Nat.le_trans tt (by decide), ?_⟩
      have hsr := suffix_no t
      dsimp only
      generalize Txt.removesuffix t (Str.ofString " no") = r at hsr ⊢
      have rr : r.length ≤ 100 := by rw [← tl_len, hsr]; have := cutNo_len (tl t); have := tl_len t; omega
      have hrd : rdB (tl z) = (partB 0 (tl l) && partB ((r.length : Int) - 1) (tl r)) := by
        unfold rdB okB
        rw [decide_eq_true h45, Bool.true_and, ← hl, tl_mk, hsr, ← ht, tl_mk]
        have : (r.length : Int) = ((cutNo (rhs (tl z))).length : Int) := by rw [← tl_len, hsr, ← ht, tl_mk]
        rw [this]
      refine ⟨.str (Str.ofString "-"), rfl, rfl, _, rfl, ?_⟩
      rw [show decide (V.str (Str.ofString "-") = V.str (Str.ofString "")) = false by rw [eqT]; decide +kernel]
      refine iteF ⟨.str l, rfl, l, 0, rfl, ll, fun H2 s2 => ⟨_, rfl, ?_⟩⟩
      cases e1 : partB 0 (tl l) with
      | false =>
        refine iteT ⟨_, rfl, raise_err N.oex N.fp fun d hd => qe (by rw [hrd, e1]; rfl) H2 d (s1.trans s2) hd⟩
      | true =>
        refine iteF ⟨.str r, rfl, .str r, rfl, .str r, r.length, rfl, ⟨Nat.le_trans rr (by decide), rfl⟩, _, 1, rfl, rfl, r, _, rfl, rr, fun H3 s3 => ⟨_, rfl, ?_⟩⟩
        cases e2 : partB ((r.length : Int) - 1) (tl r) with
        | false => exact iteT ⟨_, rfl, raise_err N.oex N.fp fun d hd => qe (by rw [hrd, e1, e2]; rfl) H3 d (s1.trans (s2.trans s3)) hd⟩
        | true => exact iteF ⟨.str l, rfl, .str r, rfl, .str r, rfl, .str t, rfl, rfl, (by show 3 ≤ sizeLine; decide), fun t2 nt2 => q (by rw [hrd, e1, e2]; rfl) _ t2 (s1.trans (s2.trans (s3.trans (same_new nt2))))⟩
    · rw [part_nodash h45]
      have s1 : Same H (upd H p (.tup [.str z, .str Str.empty, .str Str.empty])) := same_new np
      refine ⟨p, _, rfl, SqT.of upd_same, rfl, .str z, _, rfl, .str Str.empty, _, rfl, .str Str.empty, _, rfl, rfl, ?_⟩
      generalize upd H p (.tup [.str z, .str Str.empty, .str Str.empty]) = H1 at s1 ⊢
      refine ⟨.str Str.empty, rfl, ⟨_, rfl⟩, _, _, rfl, rfl, by decide, ?_⟩
      refine ⟨.str Str.empty, rfl, rfl, _, rfl, ?_⟩
      rw [show decide (V.str Str.empty = V.str (Str.ofString "")) = true by rw [eqT]; decide +kernel]
      exact iteT (iteT ⟨_, rfl, raise_err N.oex N.fp fun d hd => qe (by unfold rdB; rw [decide_eq_false h45]; rfl) H1 d s1 hd⟩)
end
end K28

set_option maxRecDepth 100000
set_option maxHeartbeats 4000000
namespace K28
open PySem PySem.Spec PyProof.Rows L2 RJ
def badOf : List Str → Option Str
  | [] => none
  | z :: zs => if rdB (tl z) = true then badOf zs else some z
theorem badOf_drop {zs : List Str} {i : Nat} {z : Str} (h : zs[i]? = some z) : badOf (zs.drop i) = if rdB (tl z) = true then badOf (zs.drop (i + 1)) else some z := by
  obtain ⟨l, e⟩ := List.getElem?_eq_some_iff.mp h
  rw [List.drop_eq_getElem_cons l, e]; rfl
/-- a Joints at p with these lines -/
def JA (C : Addr) (H : Hp) (p l1 : Addr) (zs : List Str) : Prop := ∃ dx fs, H p = some (.ins C dx fs) ∧ fs.lookup ("_lines" : Str) = some (.ref l1) ∧ H l1 = some (.lst (zs.map V.str))
theorem JA.same {C : Addr} {H H' : Hp} {p l1 : Addr} {zs : List Str} (h : JA C H p l1 zs) (s : Same H H') : JA C H' p l1 zs := let ⟨dx, fs, h1, h2, h3⟩ := h; ⟨dx, fs, s _ _ h1, h2, s _ _ h3⟩
structure Txt (K : PySem.W.Frag) (mg : Str → Option Value) (C : Addr) : Prop where
  cl : Cls K C
  nL : NoAttr K C "_lines"
  nR : NoAttr K C "_rows"
  mgC : mg "Joints" = some (.ref C)
section
variable {P : Program} {w : World} {K : PySem.W.Frag} {mg : Str → Option Value} {base : Heap} {t1 t2 t3 t4 t5 : Tok}
/-! ### Joints.__init__ -/
def spJInit (C CT CJ : Addr) : Sp := fun vs H Q E => ∃ (p dx a : Addr) (zs : List Str), vs = [.ref p, .ref a] ∧ H p = some (.ins C dx []) ∧ H a = some (.lst (zs.map V.str)) ∧ zs.length ≤ 100 ∧ (∀ z ∈ zs, z.length ≤ 100) ∧
  (8 < zs.length → ∀ d, H d = none → E (.ref CT) (some d) (upd H d (.xd [("many", .int (zs.length : Nat))]))) ∧
  (zs.length ≤ 8 → ∀ z, badOf zs = some z → ∀ H1 d, (∀ b o, b ≠ p → H b = some o → H1 b = some o) → H1 d = none → E (.ref CJ) (some d) (upd H1 d (.xd [("text", .str z)]))) ∧
  (zs.length ≤ 8 → badOf zs = none → ∀ H' l1, (∀ b o, b ≠ p → H b = some o → H' b = some o) → H l1 = none → JA C H' p l1 zs → Q .non H')
abbrev nIn : List Str := ["self", "lines", "line"]
theorem scInit : FnScope nIn ["self", "lines"] (defScope sInit) := ⟨rfl, rfl, rfl, by decide +kernel, rfl, by decide +kernel, by decide +kernel⟩
theorem ok_jinit {C CT CJ fT fI f f_is_letter f_is_part f_read_joint : Addr} {fdT fdI fd fd_is_letter fd_is_part fd_read_joint : FuncData} (B : Blt mg) (Z : Cst mg t1 t2 t3 t4 t5) (T : Txt K mg C) (NT : TooL K mg CT fT fdT) (N : BadJ K mg CJ fI fdI) (F : Fun K "__init__" "Joints.__init__" sInit f fd)
    (F_is_letter : Fun K "is_letter" "is_letter" sLetter f_is_letter fd_is_letter) (b_is_letter : Binds K fd_is_letter ["char"] []) (g_is_letter : mg "is_letter" = some (.ref f_is_letter))
    (F_is_part : Fun K "_is_part" "_is_part" sPart f_is_part fd_is_part) (b_is_part : Binds K fd_is_part ["text", "end"] []) (g_is_part : mg "_is_part" = some (.ref f_is_part))
    (F_read_joint : Fun K "_read_joint" "_read_joint" sRead f_read_joint fd_read_joint) (b_read_joint : Binds K fd_read_joint ["line"] []) (g_read_joint : mg "_read_joint" = some (.ref f_read_joint)) :
    FnOk P w K mg base (L2.CX P w) 4 f fd ["self", "lines"] (spJInit C CT CJ) := by
  have G_read_joint : FnOk P w K mg base (L2.CX P w) 3 f_read_joint fd_read_joint ["line"] (spRead CJ) := ok_read B Z N F_read_joint F_is_letter b_is_letter g_is_letter F_is_part b_is_part g_is_part
  have GT : FnOk P w K mg base CX0 1 fT fdT ["self", "many"] (spEI K CT "many") := ok_TooLI NT.F
  refine F.okX scInit (fun vs H Q E h => ?_) (fun cdv A0 outer s H vs Q E hr h => ?_)
  · obtain ⟨p, dx, a, zs, rfl, _⟩ := h; rfl
  · obtain ⟨p, dx, a, zs, rfl, hp, ha, hl100, hz100, qT, qJ, q⟩ := h
    have hr2 : Room 2 _ := hr.mono (by decide)
    refine ⟨_, (pss_cons (ps_if (pt_cmpR op_gt (pe_callB call_len (by rfl) B.len PySem.boot_len (pa_cons (pv 1) pa_nil)) (pe_glob (v := .int 8) (by rfl) Z.g_MOST_JOINT_ROWS ⟨_, rfl⟩) (nomark _))
      (pss_one (ps_raise rfl (takes_of rfl rfl rfl rfl) (pmk_oex NT.oex NT.iC NT.tI GT hr2 NT.b .nil pass0 (by rfl) NT.gC (pa_cons (pe_callB call_len (by rfl) B.len PySem.boot_len (pa_cons (pv 1) pa_nil)) pa_nil))))
      pss_nil)
      (pss_cons (ps_fld (pv 0) (pe_callTy call_list_of (by rfl) B.list (by decide +kernel) (pa_cons (pv 1) pa_nil)) rfl)
      (pss_one (ps_fld (pv 0) (RC.pe_lcE (own := [("line", 2)]) (g := gName 2) (tt := tYes) (takes_of rfl rfl rfl rfl) rfl rfl rfl scInit.nd (pi_list (pv 1)) (blkOk_by (N := nIn) (sc := defScope sInit) (by decide +kernel)) (fun _ _ _ _ _ => (pg_name (i := 2) scInit.nd rfl (.inl rfl))) (fun _ _ _ _ _ => pts_nil) (fun _ _ _ _ _ pas => (pe_call G_read_joint hr (by rfl) g_read_joint F_read_joint.kp b_read_joint .nil pas (pa_cons (pv 2) pa_nil)))) rfl)))), ?_⟩
    have npa : a ≠ p := ne_of ha hp (by intro z; cases z)
    refine ⟨.ref a, rfl, .ref a, (zs.map V.str).length, rfl, .inl ⟨_, SqL.of ha, rfl⟩, _, 8, rfl, rfl, _, rfl, ?_⟩
    rw [List.length_map]
    refine ite2 (fun hk => ?_) (fun hk => ?_)
    · have h8 : 8 < zs.length := by have := of_decide_eq_true hk; omega
      exact ⟨.ref a, rfl, .ref a, (zs.map V.str).length, rfl, .inl ⟨_, SqL.of ha, rfl⟩, by rw [List.length_map]; exact raise_err NT.oex NT.fp fun d hd => qT h8 d hd⟩
    have h8 : zs.length ≤ 8 := by
      have h1 : ¬ ((8 : Int) < (zs.length : Int)) := fun h => hk (decide_eq_true h)
      omega
    refine ⟨.ref a, rfl, a, _, rfl, .inl (SqL.of ha), fun l1 nl1 => ?_⟩
    have npl1 : p ≠ l1 := ne_of_none hp nl1
    have s1 : Same H (upd H l1 (.lst (zs.map V.str))) := same_new nl1
    refine ⟨.ref p, rfl, p, C, dx, [], rfl, s1 _ _ hp, T.cl, T.nL, (by show 0 < 1000; decide), ?_⟩
    have k1 : ∀ b o, b ≠ p → H b = some o → upd (upd H l1 (.lst (zs.map V.str))) p (.ins C dx (putF "_lines" (.ref l1) [])) b = some o := fun b o h e => by rw [upd_ne h]; exact s1 _ _ e
    have hp1 : upd (upd H l1 (.lst (zs.map V.str))) p (.ins C dx (putF "_lines" (.ref l1) [])) p = some (.ins C dx (putF "_lines" (.ref l1) [])) := upd_same
    have hl1 : upd (upd H l1 (.lst (zs.map V.str))) p (.ins C dx (putF "_lines" (.ref l1) [])) l1 = some (.lst (zs.map V.str)) := by rw [upd_ne (Ne.symm npl1), upd_same]
    generalize upd (upd H l1 (.lst (zs.map V.str))) p (.ins C dx (putF "_lines" (.ref l1) [])) = H1 at k1 hp1 hl1 ⊢
    have ha1 := k1 _ _ npa ha
    refine ⟨.ref a, rfl, a, rfl, ⟨_, SqL.of ha1⟩, fun D hD => ?_⟩
    refine lc_list (K := K) (a := a) (xs := zs.map V.str) (fun i H' => ∃ us, H' D = some (.lst us) ∧ us.length = i ∧ badOf zs = badOf (zs.drop i) ∧ Same H1 H')
      ⟨[], upd_same, rfl, rfl, same_new hD⟩ (fun i H' _ ⟨_, _, _, _, s⟩ => SqL.of (s _ _ ha1)) ?_ ?_
    · rintro i x H' hi ⟨us, hD', hl, hb, sm⟩
      rw [List.getElem?_map] at hi
      cases en : zs[i]? with
      | none => rw [en] at hi; cases hi
      | some z =>
        rw [en] at hi; cases hi
        have hilt := (List.getElem?_eq_some_iff.mp en).1
        rw [badOf_drop en] at hb
        refine ⟨rfl, .str z, rfl, z, rfl, hz100 z (List.mem_of_getElem? en), fun hno H2 d s2 hd => ?_, fun hyes H2 t s2 => ?_⟩
        · rw [if_neg (by rw [hno]; exact Bool.false_ne_true)] at hb
          exact qJ h8 z hb H2 d (fun b o h e => s2 _ _ (sm _ _ (k1 _ _ h e))) hd
        · rw [if_pos hyes] at hb
          exact ⟨us, s2 _ _ hD', small1000 (by omega), us ++ [.ref t], upd_same, by rw [List.length_append, hl]; rfl, hb, same_at (sm.trans s2) hD⟩
    · rintro H' ⟨us, hD', hl, hb, sm⟩
      rw [List.length_map, List.drop_length] at hb
      refine ⟨.ref p, rfl, p, C, dx, _, rfl, sm _ _ hp1, T.cl, T.nR, (by show 1 < 1000; decide), ?_⟩
      have npD : D ≠ p := Ne.symm (ne_of_none hp1 hD)
      refine q h8 hb _ l1 (fun b o h e => by rw [upd_ne h]; exact sm _ _ (k1 _ _ h e)) nl1 ⟨dx, _, upd_same, ?_, by rw [upd_ne (Ne.symm npl1)]; exact sm _ _ hl1⟩
      rw [lookup_putF, if_neg (by decide +kernel), lookup_putF, if_pos rfl]
/-! ### len, iter -/
def spLen (C : Addr) : Sp := fun vs H Q _ => ∃ (p l1 : Addr) (zs : List Str), vs = [.ref p] ∧ JA C H p l1 zs ∧ zs.length ≤ 1000 ∧ Q (.int ((zs.length : Nat) : Int)) H
theorem scLen : FnScope ["self"] ["self"] (defScope sLen) := ⟨rfl, rfl, rfl, by decide +kernel, rfl, by decide +kernel, by decide +kernel⟩
theorem ok_len {C f : Addr} {fd : FuncData} (B : Blt mg) (T : Txt K mg C) (F : Fun K "__len__" "Joints.__len__" sLen f fd) : FnOk P w K mg base CX0 1 f fd ["self"] (spLen C) := by
  refine F.ok scLen (fun vs H Q E h => ?_) (fun cdv A0 outer s H vs Q E hr h => ?_)
  · obtain ⟨p, l1, zs, rfl, _⟩ := h; rfl
  · obtain ⟨p, l1, zs, rfl, ⟨dx, fs, hp, ff, hl1⟩, hz, q⟩ := h
    refine ⟨_, (pss_one (ps_ret (pe_callB call_len (by rfl) B.len PySem.boot_len (pa_cons (pe_fld (pv 0) rfl) pa_nil)))), ?_⟩
    refine ⟨.ref p, rfl, p, C, dx, fs, _, rfl, hp, T.cl, T.nL, ff, .ref l1, (zs.map V.str).length, rfl, .inl ⟨_, SqL.of hl1, rfl⟩, ?_⟩
    rw [List.length_map]; exact q
theorem scIter : FnScope ["self"] ["self"] (defScope sIter) := ⟨rfl, rfl, rfl, by decide +kernel, rfl, by decide +kernel, by decide +kernel⟩
theorem ok_iter {C f : Addr} {fd : FuncData} (B : Blt mg) (T : Txt K mg C) (F : Fun K "__iter__" "Joints.__iter__" sIter f fd) : RO.FnN P w K mg base CX0 1 f fd ["self"] (RO.spIt C "_lines") := by
  refine RO.fun_okN F scIter (fun n vs H Q E h => ?_) (fun cdv A0 outer s H vs Q E hr h => ?_)
  · obtain ⟨p, dx, l, fs, rfl, _⟩ := h; rfl
  · obtain ⟨p, dx, l, fs, rfl, hp, hf, ⟨zs, hl⟩, q⟩ := h
    refine ⟨_, (pss_one (ps_ret (pe_callB ItX.call_iterN (by rfl) B.iter (by decide +kernel) (pa_cons (pe_fld (pv 0) rfl) pa_nil)))), ?_⟩
    exact ⟨.ref p, rfl, p, C, dx, fs, _, rfl, hp, T.cl, T.nL, hf, l, zs, rfl, SqL.of hl, q⟩

end
end K28

set_option maxRecDepth 100000
set_option maxHeartbeats 4000000
namespace K28
open PySem PySem.Spec PyProof.Rows L2 RJ
abbrev Rw := Str × Str × Bool
structure Good (x : Rw) : Prop where
  l : x.1.length ≤ 3
  r : x.2.1.length ≤ 3
  pl : PartOk 0 (tl x.1)
  pr : PartOk ((x.2.1.length : Int) - 1) (tl x.2.1)
/-- letters that the law draws from -/
structure Alpha (z : Str) : Prop where
  L : ∀ c ∈ tl z, isL c = true
  lo : 1 ≤ z.length
  hi : z.length ≤ 3
section
variable {P : Program} {w : World} {K : PySem.W.Frag} {mg : Str → Option Value} {base : Heap} {t1 t2 t3 t4 t5 : Tok}
theorem at1 {rs : List Int} {i : Nat} {g : Int} (h : rs[i]? = some g) : (rs.map V.int)[i]? = some (.int g) := by rw [List.getElem?_map, h]; rfl
/-! ### _law_letters -/
def spLetters : Sp := fun vs H Q _ => ∃ (c : Int), vs = [.int c] ∧ ∀ H' z, Same H H' → Alpha z → Q (.str z) H'
abbrev nLe : List Str := ["_law_cell_here", "_law_row_here", "_law_many", "_law_alphabet", "_law_out", "_law_letter", "_law_k"]
theorem scLetters : FnScope nLe ["_law_cell_here"] (defScope sLetters) := ⟨rfl, rfl, rfl, by decide +kernel, rfl, by decide +kernel, by decide +kernel⟩
theorem ok_letters {f f_row : Addr} {fd fd_row : FuncData} (B : Blt mg) (F : Fun K "_law_letters" "_law_letters" sLetters f fd)
    (F_row : Fun K "_law_row" "_law_row" sRow f_row fd_row) (b_row : Binds K fd_row ["_law_cell_here", "_law_limits"] []) (g_row : mg "_law_row" = some (.ref f_row)) :
    FnOk P w K mg base CX0 2 f fd ["_law_cell_here"] spLetters := by
  have G_row : FnOk P w K mg base CX0 1 f_row fd_row ["_law_cell_here", "_law_limits"] (spRow K) := ok_row B F_row
  refine F.ok scLetters (fun vs H Q E h => ?_) (fun cdv A0 outer s H vs Q E hr h => ?_)
  · obtain ⟨c, rfl, _⟩ := h; rfl
  · obtain ⟨c, rfl, q⟩ := h
    refine ⟨_, (pss_cons (ps_set (i := 1) scLetters.nd rfl (.inr rfl) (pe_call G_row hr (by rfl) g_row F_row.kp b_row .nil pass0 (pa_cons (pv 0) (pa_cons (pe_lst (pa_cons pe_int (pa_cons pe_int (pa_cons pe_int (pa_cons pe_int pa_nil))))) pa_nil))))
      (pss_cons (ps_set (i := 2) scLetters.nd rfl (.inl rfl) pe_int)
      (Evl.pss_cut (ps_if (pt_cmpR op_lt (pe_ix ix_list (pv 1) pe_int (fun _ _ => rfl)) pe_int (nomark _))
      (pss_one (ps_set (i := 2) scLetters.nd rfl (.inl rfl) (pe_op op_add pe_int (pe_op op_mul pe_int (pe_ix ix_list (pv 1) pe_int (fun _ _ => rfl))))))
      pss_nil)
      (pss_cons (ps_set (i := 3) scLetters.nd rfl (.inr rfl) pe_str)
      (pss_cons (ps_set (i := 4) scLetters.nd rfl (.inl rfl) pe_str)
      (pss_cons (ps_for (PassesOwn.never) rfl (pi_list (pe_callB cr_sortedS (by rfl) B.sorted (by decide +kernel) (pa_cons (pe_lc (own := [("_law_k", 6)]) (g := gName 6) (tt := tYes) rfl scLetters.nd (pi_range1 (by rfl) B.range (pa_cons (pv 2) pa_nil)) (blkOk_by (N := nLe) (sc := defScope sLetters) (by decide +kernel)) (fun _ _ _ _ _ => (pg_name (i := 6) scLetters.nd rfl (.inl rfl))) (fun _ _ _ _ _ => pts_nil) (fun _ _ _ _ _ => (pe_ix ix_str (pv 3) (pe_ix (show IxR _ (rIxL K) from ix_list) (pv 1) (pe_op op_add pe_int (pv 6)) (fun _ _ => rfl)) (fun _ _ => rfl)))) pa_nil))) (pg_name (i := 5) scLetters.nd rfl (.inl rfl))
      (pss_one (ps_if (pt_cmpR op_notIn_sign (pv 5) (pv 4) (by with_unfolding_all rfl))
       (pss_one (ps_set (i := 4) scLetters.nd rfl (.inl rfl) (pe_op op_add_str (pv 4) (pv 5))))
       pss_nil)))
      (pss_one (ps_ret (pv 4))))))))), ?_⟩
    refine ⟨.int c, rfl, (by show 4 ≤ sizeLine; decide), fun l nl => ?_⟩
    refine ⟨c, l, [12, 26, 26, 26], rfl, SqL.of (by rw [upd_same]; rfl), by decide, by decide, fun H1 R rs s1 nR eR hrow => ?_⟩
    have sA : Same H H1 := (same_new nl).trans s1
    obtain ⟨g0, a0, g00, g01⟩ := hrow.2 0 12 rfl
    have row26 : ∀ k : Nat, k < 3 → ∃ g, rs[1 + k]? = some g ∧ 0 ≤ g ∧ g < 26 := fun k hk => hrow.2 (1 + k) 26 (by match k, hk with | 0, _ => rfl | 1, _ => rfl | 2, _ => rfl)
    refine ⟨fun σ H' => ∃ m : Nat, σ = [some (.int c), some (.ref R), some (.int (m : Int)), none, none, none, none] ∧ H1 = H' ∧ 1 ≤ m ∧ m ≤ 3, ?_, ?_⟩
    · refine ⟨.ref R, rfl, R, _, 0, .int g0, rfl, rfl, SqL.of eR, atI_nat (j := 0) (at1 a0), g0, 2, rfl, rfl, _, rfl, ite2 (fun h => ?_) (fun h => ⟨2, rfl, rfl, by decide, by decide⟩)⟩
      have h' : g0 < 2 := of_decide_eq_true h
      refine ⟨.ref R, rfl, R, _, 0, .int g0, rfl, rfl, SqL.of eR, atI_nat (j := 0) (at1 a0), 2, g0, rfl, rfl, .inl ⟨by decide, by decide⟩, 1, _, rfl, rfl, ?_⟩
      refine ⟨(1 + 2 * g0).toNat, ?_, rfl, by omega, by omega⟩
      rw [show (((1 + 2 * g0).toNat : Nat) : Int) = 1 + 2 * g0 by omega]; rfl
    rintro σ _ ⟨m, rfl, rfl, hm1, hm3⟩
    refine ⟨.int (m : Int), rfl, (m : Int), rfl, by omega, by omega, fun D hD => ?_⟩
    rw [Int.toNat_natCast]
    refine lc_range (lo := 0) (n := m) (fun i H' => ∃ cs : List Nat, H' D = some (.lst ((cs.map fun c => (⟨#[c]⟩ : Str)).map V.str)) ∧ cs.length = i ∧ (∀ c ∈ cs, isL c = true) ∧ Same H1 H')
      ⟨[], upd_same, rfl, fun c h => absurd h List.not_mem_nil, same_new hD⟩ ?_ ?_
    · rintro i H' hi ⟨cs, hD', hl, hL, sm⟩
      obtain ⟨g, ag, gg0, gg1⟩ := row26 i (by omega)
      obtain ⟨cch, hc, hcm⟩ := pick (z := letters) gg0 (by rw [letters_len]; exact gg1)
      have e0 : (1 : Int) + (0 + (i : Int)) = ((1 + i : Nat) : Int) := by omega
      refine ⟨rfl, .str letters, rfl, .ref R, rfl, .int (0 + (i : Int)), rfl, 1, _, rfl, rfl, R, _, _, .int g, rfl, rfl, SqL.of (sm _ _ eR), by rw [e0]; exact atI_nat (at1 ag), letters, g, cch, rfl, rfl, by rw [letters_len]; decide, hc, _, hD', ?_, cs ++ [cch], ?_, ?_, ?_, same_at sm hD⟩
      · rw [List.length_map, List.length_map]; exact small1000 (by omega)
      · rw [upd_same, List.map_append, List.map_append]; rfl
      · rw [List.length_append, hl]; rfl
      · intro x hx
        rcases List.mem_append.mp hx with h | h
        · exact hL x h
        · rw [List.mem_singleton.mp h]; exact letters_L _ hcm
    · rintro H' ⟨cs, hD', hl, hL, sm⟩
      refine ⟨D, _, rfl, SqL.of hD', by rw [List.length_map]; omega, fun ys p hperm _ np => ?_⟩
      have hy : ∀ y ∈ ys, ∃ c, y = (⟨#[c]⟩ : Str) ∧ isL c = true := fun y hy => by
        have h1 := hperm.mem_iff.mp hy
        obtain ⟨c, hc, rfl⟩ := List.mem_map.mp h1
        exact ⟨c, rfl, hL c hc⟩
      have hyl : ys.length = m := by rw [hperm.length_eq, List.length_map, hl]
      have s3 : Same H' (upd H' p (.lst (ys.map V.str))) := same_new np
      have e3 : upd H' p (.lst (ys.map V.str)) p = some (.lst (ys.map V.str)) := upd_same
      generalize upd H' p (.lst (ys.map V.str)) = H3 at s3 e3 ⊢
      refine ⟨p, rfl, ⟨_, SqL.of e3⟩, for_list (K := K) (a := p) (xs := ys.map V.str) (fun i σ H'' => ∃ (z : Str) (y5 : Option V), σ = [some (.int c), some (.ref R), some (.int (m : Int)), some (.str letters), some (.str z), y5, none] ∧ H'' = H3 ∧ (∀ c ∈ tl z, isL c = true) ∧ z.length ≤ i ∧ (1 ≤ i → 1 ≤ z.length))
        ⟨Str.ofString "", none, rfl, rfl, by decide +kernel, by decide +kernel, fun h => by omega⟩ (fun i σ H'' _ ⟨_, _, _, e, _⟩ => by rw [e]; exact SqL.of e3) ?_ ?_⟩
      · rintro i x σ H'' hi ⟨z, y5, rfl, rfl, hzL, hzl, hz1⟩
        rw [List.getElem?_map] at hi
        cases en : ys[i]? with
        | none => rw [en] at hi; cases hi
        | some y =>
          rw [en] at hi; cases hi
          have hilt := (List.getElem?_eq_some_iff.mp en).1
          obtain ⟨cc, rfl, hcL⟩ := hy y (List.mem_of_getElem? en)
          refine ⟨.str ⟨#[cc]⟩, rfl, .str z, rfl, cc, z, rfl, rfl, _, rfl, ite2 (fun h => ?_) (fun h => ?_)⟩
          · refine ⟨.str z, rfl, .str ⟨#[cc]⟩, rfl, z, ⟨#[cc]⟩, rfl, rfl, ?_, ?_⟩
            · show z.length + 1 ≤ sizeLine
              exact Nat.le_trans (show z.length + 1 ≤ 10 by omega) (by decide)
            · refine ⟨_, _, rfl, rfl, ?_, by rw [len_add]; show z.length + 1 ≤ i + 1; omega, fun _ => by rw [len_add]; show 1 ≤ z.length + 1; omega⟩
              rw [tl_add]
              intro d hd
              rcases List.mem_append.mp hd with h | h
              · exact hzL d h
              · rw [List.mem_singleton.mp h]; exact hcL
          · refine ⟨z, _, rfl, rfl, hzL, by omega, fun _ => ?_⟩
            have hm : cc ∈ z.cps.toList := by simpa using h
            have : 0 < (tl z).length := List.length_pos_of_mem hm
            rw [tl_len] at this; omega
      · rintro σ H'' ⟨z, y5, rfl, rfl, hzL, hzl, hz1⟩
        rw [List.length_map] at hzl hz1
        exact ⟨.str z, rfl, q _ z (sA.trans (sm.trans s3)) ⟨hzL, hz1 (by omega), by omega⟩⟩
end
end K28

set_option maxRecDepth 100000
set_option maxHeartbeats 4000000
namespace K28
open PySem PySem.Spec PyProof.Rows L2 RJ
def isM (c : Nat) : Prop := isL c = true ∨ c = 63
theorem partM {e : Int} {l : List Nat} (h : ∀ c ∈ l, isM c) : PartOk e l := fun i c hc => by
  rcases h c (List.mem_of_getElem? hc) with h | h
  · exact .inl h
  · exact .inr (.inl h)
theorem part_dot {l : List Nat} (h : ∀ c ∈ l, isM c) : PartOk 0 (46 :: l.drop 1) := fun i c hc => by
  cases i with
  | zero => simp at hc; subst hc; exact .inr (.inr ⟨rfl, rfl⟩)
  | succ i =>
    have hm : c ∈ l := List.mem_of_mem_drop (List.mem_of_getElem? (by simpa using hc))
    rcases h c hm with h | h
    · exact .inl h
    · exact .inr (.inl h)
theorem part_end {l : List Nat} {n : Nat} (h : ∀ c ∈ l, isM c) (hn : l.length = n + 1) : PartOk (n : Int) (l.take n ++ [46]) := fun i c hc => by
  have hl : (l.take n).length = n := by rw [List.length_take]; omega
  by_cases hi : i < n
  · rw [List.getElem?_append_left (by omega)] at hc
    rcases h c (List.mem_of_mem_take (List.mem_of_getElem? hc)) with h | h
    · exact .inl h
    · exact .inr (.inl h)
  · rw [List.getElem?_append_right (by omega), hl] at hc
    have hlt := (List.getElem?_eq_some_iff.mp hc).1
    simp at hlt
    have e : i = n := by omega
    subst e
    simp at hc
    exact .inr (.inr ⟨hc.symm, rfl⟩)
theorem cut_neg1 (z : Str) : tl (cutS z none (some (-1))) = (tl z).take (z.length - 1) := by
  unfold cutS tl
  rw [HT.sIx_none]
  show (z.cps.toList.drop 0).take (HT.sIx z.length z.length (some (-1)) - 0) = _
  rw [List.drop_zero, Nat.sub_zero]
  congr 1
  show (if (-1 : Int) < 0 then ((-1 : Int) + (z.length : Int)).toNat else min (-1 : Int).toNat z.length) = z.length - 1
  rw [if_pos (by decide)]; omega
section
variable {P : Program} {w : World} {K : PySem.W.Frag} {mg : Str → Option Value} {base : Heap} {t1 t2 t3 t4 t5 : Tok}
def lsJ : List Int := [4, 4, 7, 7, 7, 7, 7, 7, 4, 4, 3, 26]
def spJoint : Sp := fun vs H Q _ => ∃ (c sh : Int) (z : Str), vs = [.int c, .str z, .int sh] ∧ Alpha z ∧ ∀ H' t x, Same H H' → H' t = some (.tup [.str x.1, .str x.2.1, .bl x.2.2]) → Good x → Q (.ref t) H'
abbrev nJ : List Str := ["_law_cell_here", "_law_letters_here", "_law_share", "_law_row_here", "_law_alphabet", "_law_menu", "_law_left", "_law_right", "_law_k"]
theorem scJoint : FnScope nJ ["_law_cell_here", "_law_letters_here", "_law_share"] (defScope sJoint) := ⟨rfl, rfl, rfl, by decide +kernel, rfl, by decide +kernel, by decide +kernel⟩
theorem ok_joint {f f_row : Addr} {fd fd_row : FuncData} (B : Blt mg) (F : Fun K "_law_joint" "_law_joint" sJoint f fd)
    (F_row : Fun K "_law_row" "_law_row" sRow f_row fd_row) (b_row : Binds K fd_row ["_law_cell_here", "_law_limits"] []) (g_row : mg "_law_row" = some (.ref f_row)) :
    FnOk P w K mg base CX0 2 f fd ["_law_cell_here", "_law_letters_here", "_law_share"] spJoint := by
  have G_row : FnOk P w K mg base CX0 1 f_row fd_row ["_law_cell_here", "_law_limits"] (spRow K) := ok_row B F_row
  refine F.ok scJoint (fun vs H Q E h => ?_) (fun cdv A0 outer s H vs Q E hr h => ?_)
  · obtain ⟨c, sh, z, rfl, _⟩ := h; rfl
  · obtain ⟨c, sh, z, rfl, hz, q⟩ := h
    refine ⟨_, (pss_cons (ps_set (i := 3) scJoint.nd rfl (.inr rfl) (pe_call G_row hr (by rfl) g_row F_row.kp b_row .nil pass0 (pa_cons (pv 0) (pa_cons (pe_lst (pa_cons pe_int (pa_cons pe_int (pa_cons pe_int (pa_cons pe_int (pa_cons pe_int (pa_cons pe_int (pa_cons pe_int (pa_cons pe_int (pa_cons pe_int (pa_cons pe_int (pa_cons pe_int (pa_cons pe_int pa_nil))))))))))))) pa_nil))))
      (pss_cons (ps_set (i := 4) scJoint.nd rfl (.inl rfl) pe_str)
      (pss_cons (ps_set (i := 5) scJoint.nd rfl (.inr rfl) (pe_op op_add_str (pv 1) (pv 1)))
      (pss_cons (ps_set (i := 5) scJoint.nd rfl (.inr rfl) (pe_op op_add_str (pe_op op_add_str (pe_slice sl_str (pe_op op_add_str (pv 5) (pv 5)) po_none (po_some pe_int)) pe_str) (pe_ix ix_str (pv 4) (pe_ix ix_list (pv 3) pe_int (fun _ _ => rfl)) (fun _ _ => rfl))))
      (pss_cons (ps_set (i := 6) scJoint.nd rfl (.inl rfl) (pe_join pe_str (pe_lc (own := [("_law_k", 8)]) (g := gName 8) (tt := tYes) rfl scJoint.nd (pi_range1 (by rfl) B.range (pa_cons (pe_ix ix_list (pv 3) pe_int (fun _ _ => rfl)) pa_nil)) (blkOk_by (N := nJ) (sc := defScope sJoint) (by decide +kernel)) (fun _ _ _ _ _ => (pg_name (i := 8) scJoint.nd rfl (.inl rfl))) (fun _ _ _ _ _ => pts_nil) (fun _ _ _ _ _ => (pe_ix ix_str (pv 5) (pe_ix (show IxR _ (rIxL K) from ix_list) (pv 3) (pe_op op_add pe_int (pv 8)) (fun _ _ => rfl)) (fun _ _ => rfl))))))
      (pss_cons (ps_set (i := 7) scJoint.nd rfl (.inl rfl) (pe_join pe_str (pe_lc (own := [("_law_k", 8)]) (g := gName 8) (tt := tYes) rfl scJoint.nd (pi_range1 (by rfl) B.range (pa_cons (pe_ix ix_list (pv 3) pe_int (fun _ _ => rfl)) pa_nil)) (blkOk_by (N := nJ) (sc := defScope sJoint) (by decide +kernel)) (fun _ _ _ _ _ => (pg_name (i := 8) scJoint.nd rfl (.inl rfl))) (fun _ _ _ _ _ => pts_nil) (fun _ _ _ _ _ => (pe_ix ix_str (pv 5) (pe_ix (show IxR _ (rIxL K) from ix_list) (pv 3) (pe_op op_add pe_int (pv 8)) (fun _ _ => rfl)) (fun _ _ => rfl))))))
      (Evl.pss_cut (ps_if (PW.pt (pw_and (pt_cmpR op_gt (pe_ix ix_list (pv 3) pe_int (fun _ _ => rfl)) pe_int (nomark _)) (pw_and1 (pt_cmpR op_eq (pe_ix ix_list (pv 3) pe_int (fun _ _ => rfl)) pe_int (nomark _)))))
      (pss_one (ps_set (i := 6) scJoint.nd rfl (.inl rfl) (pe_op op_add_str pe_str (pe_slice sl_str (pv 6) (po_some pe_int) po_none))))
      pss_nil)
      (Evl.pss_cut (ps_if (PW.pt (pw_and (pt_cmpR op_gt (pe_ix ix_list (pv 3) pe_int (fun _ _ => rfl)) pe_int (nomark _)) (pw_and1 (pt_cmpR op_eq (pe_ix ix_list (pv 3) pe_int (fun _ _ => rfl)) pe_int (nomark _)))))
      (pss_one (ps_set (i := 7) scJoint.nd rfl (.inl rfl) (pe_op op_add_str (pe_slice sl_str (pv 7) po_none (po_some (pe_un un_neg pe_int))) pe_str)))
      pss_nil)
      (pss_one (ps_ret (pe_tup (pa_cons (pv 6) (pa_cons (pv 7) (pa_cons (pe_cmpR op_lt (pe_ix ix_list (pv 3) pe_int (fun _ _ => rfl)) (pv 2) (nomark _)) pa_nil)))))))))))))), ?_⟩
    refine ⟨.int c, rfl, (by show 12 ≤ sizeLine; decide), fun l nl => ?_⟩
    refine ⟨c, l, lsJ, rfl, SqL.of (by rw [upd_same]; rfl), by decide, by decide, fun H1 R rs s1 nR eR hrow => ?_⟩
    have sA : Same H H1 := (same_new nl).trans s1
    obtain ⟨g0, a0, g00, g01⟩ := hrow.2 0 4 rfl
    obtain ⟨g1, a1, g10, g11⟩ := hrow.2 1 4 rfl
    obtain ⟨g8, a8, g80, g81⟩ := hrow.2 8 4 rfl
    obtain ⟨g9, a9, g90, g91⟩ := hrow.2 9 4 rfl
    obtain ⟨g10', a10, g100, g101⟩ := hrow.2 10 3 rfl
    obtain ⟨g11', a11, g110, g111⟩ := hrow.2 11 26 rfl
    have row7 : ∀ k : Nat, 2 ≤ k → k < 8 → ∃ g, rs[k]? = some g ∧ 0 ≤ g ∧ g < 7 := fun k h2 hk => hrow.2 k 7 (by match k, h2, hk with | 2, _, _ => rfl | 3, _, _ => rfl | 4, _, _ => rfl | 5, _, _ => rfl | 6, _, _ => rfl | 7, _, _ => rfl)
    obtain ⟨cc, hcc, hccm⟩ := pick (z := letters) g110 (by rw [letters_len]; exact g111)
    have line : ∀ n : Nat, n ≤ 300 → n ≤ sizeLine := fun n h => Nat.le_trans h (by decide)
    have z1 := hz.lo; have z3 := hz.hi
    have l2 : (z ++ z).length = z.length + z.length := len_add _ _
    have l4 : ((z ++ z) ++ (z ++ z)).length = (z ++ z).length + (z ++ z).length := len_add _ _
    refine ⟨.str z, rfl, .str z, rfl, z, z, rfl, rfl, line _ (by omega), .str (z ++ z), rfl, .str (z ++ z), rfl, z ++ z, z ++ z, rfl, rfl, line _ (by omega), _, rfl, _, rfl, line _ (by omega), ?_⟩
    have e4 : tl (cutS ((z ++ z) ++ (z ++ z)) none (some 4)) = (tl ((z ++ z) ++ (z ++ z))).take 4 := cut_to _ 4
    generalize cutS ((z ++ z) ++ (z ++ z)) none (some 4) = M4 at e4 ⊢
    have e4l : M4.length = 4 := by rw [← tl_len, e4, List.length_take, tl_len]; omega
    have e4m : ∀ c ∈ tl M4, isL c = true := fun c hc => by
      rw [e4] at hc
      have h := List.mem_of_mem_take hc
      rw [tl_add, tl_add] at h
      simp only [List.mem_append] at h
      exact hz.L c (by rcases h with (h | h) | (h | h) <;> exact h)
    have eqq : (Str.ofString "??").length = 2 := by decide +kernel
    have eqt : tl (Str.ofString "??") = [63, 63] := by decide +kernel
    have l6 : (M4 ++ Str.ofString "??").length = 6 := by rw [len_add, e4l, eqq]
    refine ⟨M4, Str.ofString "??", rfl, rfl, line _ (by rw [e4l, eqq]; decide), .str letters, rfl, .ref R, rfl, R, _, 11, .int g11', rfl, rfl, SqL.of eR, atI_nat (j := 11) (at1 a11), letters, g11', cc, rfl, rfl, by rw [letters_len]; decide, hcc, _, _, rfl, rfl, line _ (by rw [l6]; show 6 + 1 ≤ 300; decide), ?_⟩
    have eM : ∀ c ∈ tl (M4 ++ Str.ofString "??" ++ ⟨#[cc]⟩), isM c := fun c hc => by
      rw [tl_add, tl_add, eqt] at hc
      simp only [List.mem_append] at hc
      rcases hc with (h | h) | h
      · exact .inl (e4m c h)
      · simp at h; exact .inr h
      · rw [List.mem_singleton.mp h]; exact .inl (letters_L _ hccm)
    have eMl : (M4 ++ Str.ofString "??" ++ ⟨#[cc]⟩).length = 7 := by rw [len_add, l6]; rfl
    generalize M4 ++ Str.ofString "??" ++ ⟨#[cc]⟩ = M at eM eMl ⊢
    have elen : ∀ cs : List Nat, cs.length ≤ 3 → ((cs.map fun c => (⟨#[c]⟩ : Str)).map (·.length)).sum + (cs.map fun c => (⟨#[c]⟩ : Str)).length * (Str.ofString "").length ≤ 16777216 := fun cs h => by
      rw [sum_ones, show (Str.ofString "").length = 0 by decide +kernel, Nat.mul_zero]; omega
    -- left
    refine ⟨⟨_, rfl⟩, .ref R, rfl, R, _, 0, .int g0, rfl, rfl, SqL.of eR, atI_nat (j := 0) (at1 a0), g0, rfl, by omega, by omega, fun D hD => ?_⟩
    refine lc_range (lo := 0) (n := g0.toNat) (fun i H' => ∃ cs : List Nat, H' D = some (.lst ((cs.map fun c => (⟨#[c]⟩ : Str)).map V.str)) ∧ cs.length = i ∧ (∀ c ∈ cs, isM c) ∧ Same H1 H')
      ⟨[], upd_same, rfl, fun c h => absurd h List.not_mem_nil, same_new hD⟩ ?_ ?_
    · rintro i H' hi ⟨cs, hD', hl, hL, sm⟩
      obtain ⟨g, ag, gg0, gg1⟩ := row7 (2 + i) (by omega) (by omega)
      obtain ⟨cch, hc, hcm⟩ := pick (z := M) gg0 (by rw [eMl]; exact gg1)
      have e0 : (2 : Int) + (0 + (i : Int)) = ((2 + i : Nat) : Int) := by omega
      refine ⟨rfl, .str M, rfl, .ref R, rfl, .int (0 + (i : Int)), rfl, 2, _, rfl, rfl, R, _, _, .int g, rfl, rfl, SqL.of (sm _ _ eR), by rw [e0]; exact atI_nat (at1 ag), M, g, cch, rfl, rfl, by rw [eMl]; decide, hc, _, hD', ?_, cs ++ [cch], ?_, ?_, ?_, same_at sm hD⟩
      · rw [List.length_map, List.length_map]; exact small1000 (by omega)
      · rw [upd_same, List.map_append, List.map_append]; rfl
      · rw [List.length_append, hl]; rfl
      · intro x hx
        rcases List.mem_append.mp hx with h | h
        · exact hL x h
        · rw [List.mem_singleton.mp h]; exact eM _ hcm
    rintro H2 ⟨cs, hD', hl, hL, sm⟩
    refine ⟨_, D, _, rfl, rfl, .inl (SqL.of hD'), elen cs (by omega), ?_⟩
    have eJ := join_ones cs
    generalize hJ : Txt.join (Str.ofString "") (cs.map fun c => (⟨#[c]⟩ : Str)) = J at eJ
    have eR2 := sm _ _ eR
    -- right
    refine ⟨⟨_, rfl⟩, .ref R, rfl, R, _, 1, .int g1, rfl, rfl, SqL.of eR2, atI_nat (j := 1) (at1 a1), g1, rfl, by omega, by omega, fun D2 hD2 => ?_⟩
    refine lc_range (lo := 0) (n := g1.toNat) (fun i H' => ∃ ds : List Nat, H' D2 = some (.lst ((ds.map fun c => (⟨#[c]⟩ : Str)).map V.str)) ∧ ds.length = i ∧ (∀ c ∈ ds, isM c) ∧ Same H2 H')
      ⟨[], upd_same, rfl, fun c h => absurd h List.not_mem_nil, same_new hD2⟩ ?_ ?_
    · rintro i H' hi ⟨ds, hD2', hl2, hL2, sm2⟩
      obtain ⟨g, ag, gg0, gg1⟩ := row7 (5 + i) (by omega) (by omega)
      obtain ⟨cch, hc, hcm⟩ := pick (z := M) gg0 (by rw [eMl]; exact gg1)
      have e0 : (5 : Int) + (0 + (i : Int)) = ((5 + i : Nat) : Int) := by omega
      refine ⟨rfl, .str M, rfl, .ref R, rfl, .int (0 + (i : Int)), rfl, 5, _, rfl, rfl, R, _, _, .int g, rfl, rfl, SqL.of (sm2 _ _ eR2), by rw [e0]; exact atI_nat (at1 ag), M, g, cch, rfl, rfl, by rw [eMl]; decide, hc, _, hD2', ?_, ds ++ [cch], ?_, ?_, ?_, same_at sm2 hD2⟩
      · rw [List.length_map, List.length_map]; exact small1000 (by omega)
      · rw [upd_same, List.map_append, List.map_append]; rfl
      · rw [List.length_append, hl2]; rfl
      · intro x hx
        rcases List.mem_append.mp hx with h | h
        · exact hL2 x h
        · rw [List.mem_singleton.mp h]; exact eM _ hcm
    rintro H3 ⟨ds, hD2', hl2, hL2, sm2⟩
    refine ⟨_, D2, _, rfl, rfl, .inl (SqL.of hD2'), elen ds (by omega), ?_⟩
    have eJ2 := join_ones ds
    generalize hJ2 : Txt.join (Str.ofString "") (ds.map fun c => (⟨#[c]⟩ : Str)) = J2 at eJ2
    have eR3 := sm2 _ _ eR2
    have lJ : J.length = cs.length := by rw [← tl_len, eJ]
    have lJ2 : J2.length = ds.length := by rw [← tl_len, eJ2]
    have sB : Same H H3 := sA.trans (sm.trans sm2)
    have edl : (Str.ofString ".").length = 1 := by decide +kernel
    have etd : tl (Str.ofString ".") = [46] := by decide +kernel
    clear hD hD2 hD' hD2'
    -- the dots
    refine ⟨fun σ H' => ∃ L : Str, σ = [some (.int c), some (.str z), some (.int sh), some (.ref R), some (.str letters), some (.str M), some (.str L), some (.str J2), none] ∧ H3 = H' ∧ L.length ≤ 3 ∧ PartOk 0 (tl L), ?_, ?_⟩
    · have keep : J.length ≤ 3 ∧ PartOk 0 (tl J) := ⟨by omega, by rw [eJ]; exact partM hL⟩
      refine ⟨.ref R, rfl, R, _, 0, .int g0, rfl, rfl, SqL.of eR3, atI_nat (j := 0) (at1 a0), g0, 0, rfl, rfl, _, rfl, ite2 (fun h => ⟨.ref R, rfl, R, _, 8, .int g8, rfl, rfl, SqL.of eR3, atI_nat (j := 8) (at1 a8), rfl, _, rfl, ite2 (fun _ => ?_) (fun _ => ⟨J, rfl, rfl, keep⟩)⟩) (fun _ => ⟨J, rfl, rfl, keep⟩)⟩
      have h' : 0 < g0 := of_decide_eq_true h
      have ec : tl (cutS J (some 1) none) = (tl J).drop 1 := cut_from J 1
      have lc : (cutS J (some 1) none).length = cs.length - 1 := by rw [← tl_len, ec, List.length_drop, tl_len, lJ]
      refine ⟨.str J, rfl, _, rfl, J, rfl, line _ (by omega), _, _, rfl, rfl, line _ (by rw [edl, lc]; omega), ?_⟩
      refine ⟨_, rfl, rfl, by rw [len_add, edl, lc]; omega, ?_⟩
      rw [tl_add, etd, ec, eJ]
      exact part_dot hL
    rintro σ _ ⟨L, rfl, rfl, hL3, hLp⟩
    refine ⟨fun σ H' => ∃ Rr : Str, σ = [some (.int c), some (.str z), some (.int sh), some (.ref R), some (.str letters), some (.str M), some (.str L), some (.str Rr), none] ∧ H3 = H' ∧ Rr.length ≤ 3 ∧ PartOk ((Rr.length : Int) - 1) (tl Rr), ?_, ?_⟩
    · have keep : J2.length ≤ 3 ∧ PartOk ((J2.length : Int) - 1) (tl J2) := ⟨by omega, by rw [eJ2]; exact partM hL2⟩
      refine ⟨.ref R, rfl, R, _, 1, .int g1, rfl, rfl, SqL.of eR3, atI_nat (j := 1) (at1 a1), g1, 0, rfl, rfl, _, rfl, ite2 (fun h => ⟨.ref R, rfl, R, _, 9, .int g9, rfl, rfl, SqL.of eR3, atI_nat (j := 9) (at1 a9), rfl, _, rfl, ite2 (fun _ => ?_) (fun _ => ⟨J2, rfl, rfl, keep⟩)⟩) (fun _ => ⟨J2, rfl, rfl, keep⟩)⟩
      have h' : 0 < g1 := of_decide_eq_true h
      obtain ⟨n, hn⟩ : ∃ n, ds.length = n + 1 := ⟨ds.length - 1, by omega⟩
      have ec : tl (cutS J2 none (some (-1))) = (tl J2).take n := by rw [cut_neg1, lJ2, hn]; rfl
      have lc : (cutS J2 none (some (-1))).length = n := by rw [← tl_len, ec, List.length_take, tl_len, lJ2]; omega
      refine ⟨.str J2, rfl, 1, rfl, _, rfl, J2, rfl, line _ (by omega), _, _, rfl, rfl, line _ (by rw [edl, lc]; omega), ?_⟩
      have ll : (cutS J2 none (some (-1)) ++ Str.ofString ".").length = n + 1 := by rw [len_add, edl, lc]
      refine ⟨_, rfl, rfl, by rw [ll]; omega, ?_⟩
      rw [ll, tl_add, etd, ec, eJ2, show ((n + 1 : Nat) : Int) - 1 = (n : Int) by omega]
      exact part_end hL2 hn
    rintro σ _ ⟨Rr, rfl, rfl, hR3, hRp⟩
    refine ⟨.str L, rfl, .str Rr, rfl, .ref R, rfl, R, _, 10, .int g10', rfl, rfl, SqL.of eR3, atI_nat (j := 10) (at1 a10), .int sh, rfl, g10', sh, rfl, rfl, (by show 3 ≤ sizeLine; decide), fun t nt => ?_⟩
    exact q _ t (L, Rr, decide (g10' < sh)) (sB.trans (same_new nt)) upd_same ⟨hL3, hR3, hLp, hRp⟩
/-! ### _law_written -/
def spWritten : Sp := fun vs H Q _ => ∃ (t : Addr) (x : Rw), vs = [.ref t] ∧ H t = some (.tup [.str x.1, .str x.2.1, .bl x.2.2]) ∧ Good x ∧ ∀ z : Str, tl z = wrt (tl x.1) (tl x.2.1) x.2.2 → Q (.str z) H
theorem scWritten : FnScope ["_law_row_here"] ["_law_row_here"] (defScope sWritten) := ⟨rfl, rfl, rfl, by decide +kernel, rfl, by decide +kernel, by decide +kernel⟩
theorem ok_written {f : Addr} {fd : FuncData} (F : Fun K "_law_written" "_law_written" sWritten f fd) : FnOk P w K mg base CX0 1 f fd ["_law_row_here"] spWritten := by
  refine F.ok scWritten (fun vs H Q E h => ?_) (fun cdv A0 outer s H vs Q E hr h => ?_)
  · obtain ⟨t, x, rfl, _⟩ := h; rfl
  · obtain ⟨t, ⟨l, r, b⟩, rfl, ht, gd, q⟩ := h
    refine ⟨_, (pss_cons (ps_if (pt_val (pe_ix ix_tup (pv 0) pe_int (fun _ _ => rfl)))
      (pss_one (ps_ret (pe_op op_add_str (pe_op op_add_str (pe_op op_add_str (pe_ix ix_tup (pv 0) pe_int (fun _ _ => rfl)) pe_str) (pe_ix ix_tup (pv 0) pe_int (fun _ _ => rfl))) pe_str)))
      pss_nil)
      (pss_one (ps_ret (pe_op op_add_str (pe_op op_add_str (pe_ix ix_tup (pv 0) pe_int (fun _ _ => rfl)) pe_str) (pe_ix ix_tup (pv 0) pe_int (fun _ _ => rfl)))))), ?_⟩
    have ht' : H t = some (.tup [.str l, .str r, .bl b]) := ht
    have hl : l.length ≤ 3 := gd.l
    have hrl : r.length ≤ 3 := gd.r
    have line : ∀ n : Nat, n ≤ 300 → n ≤ sizeLine := fun n h => Nat.le_trans h (by decide)
    have ed : (Str.ofString "-").length = 1 := by decide +kernel
    have en : (Str.ofString " no").length = 3 := by decide +kernel
    have etd : tl (Str.ofString "-") = [45] := by decide +kernel
    have etn : tl (Str.ofString " no") = [32, 110, 111] := by decide +kernel
    have l1 : (l ++ Str.ofString "-").length = l.length + 1 := by rw [len_add, ed]
    have l2 : (l ++ Str.ofString "-" ++ r).length = l.length + 1 + r.length := by rw [len_add, l1]
    refine ⟨.ref t, rfl, t, _, 2, .bl b, rfl, rfl, SqT.of ht', atI_nat (j := 2) rfl, b, rfl, ite2 (fun h => ?_) (fun h => ?_)⟩
    · refine ⟨.ref t, rfl, t, _, 0, .str l, rfl, rfl, SqT.of ht', atI_nat (j := 0) rfl, _, _, rfl, rfl, line _ (by rw [ed]; omega), .ref t, rfl, t, _, 1, .str r, rfl, rfl, SqT.of ht', atI_nat (j := 1) rfl, _, _, rfl, rfl, line _ (by rw [l1]; omega), _, _, rfl, rfl, line _ (by rw [l2, en]; omega), q _ ?_⟩
      rw [tl_add, tl_add, tl_add, etd, etn, h]
      simp [wrt, noL]
    · have hb : b = false := by simpa using h
      refine ⟨.ref t, rfl, t, _, 0, .str l, rfl, rfl, SqT.of ht', atI_nat (j := 0) rfl, _, _, rfl, rfl, line _ (by rw [ed]; omega), .ref t, rfl, t, _, 1, .str r, rfl, rfl, SqT.of ht', atI_nat (j := 1) rfl, _, _, rfl, rfl, line _ (by rw [l1]; omega), q _ ?_⟩
      rw [tl_add, tl_add, etd, hb]
      simp [wrt, noL]
end
end K28

set_option maxRecDepth 100000
set_option maxHeartbeats 4000000
namespace K28
open PySem PySem.Spec PyProof.Rows L2 RJ
theorem sAt {zs : List Str} {i : Nat} {z : Str} (h : zs[i]? = some z) : (zs.map V.str)[i]? = some (.str z) := by rw [List.getElem?_map, h]; rfl
abbrev od1 : List V := [.str (Str.ofString ""), .str (Str.ofString "no"), .str (Str.ofString " no"), .str (Str.ofString "-  no"), .str (Str.ofString "a-b  no"), .str (Str.ofString "a-b no "), .str (Str.ofString " a-b"), .str (Str.ofString "a-b not"), .str (Str.ofString "a-b No"), .str (Str.ofString "--")]
abbrev od2 : List V := [.str (Str.ofString "a-b-c"), .str (Str.ofString "abcd-"), .str (Str.ofString "-abcd"), .str (Str.ofString "a.-"), .str (Str.ofString "-.a"), .str (Str.ofString "..-"), .str (Str.ofString "-.."), .str (Str.ofString ".a.-"), .str (Str.ofString "A-b"), .str (Str.ofString "a-B")]
abbrev od3 : List V := [.str (Str.ofString "a1-"), .str (Str.ofString "a_b"), .str (Str.ofString "a - b"), .str (Str.ofString "un-? no no"), .str (Str.ofString "a-b\n"), .str (Str.ofString "-no"), .str (Str.ofString "n-o no"), .str (Str.ofString ".-."), .str (Str.ofString "???-???")]
abbrev od4 : List V := [.str (Str.ofString ".??-??."), .str (Str.ofString "- no"), .str (Str.ofString "-"), .str (Str.ofString "-no no"), .str (Str.ofString ".abc-"), .str (Str.ofString "-abc."), .str (Str.ofString "a-b no\n"), .str (Str.ofString "*-a"), .str (Str.ofString "un-?\t")]
def odds : List Str := [Str.ofString "", Str.ofString "no", Str.ofString " no", Str.ofString "-  no", Str.ofString "a-b  no", Str.ofString "a-b no ", Str.ofString " a-b", Str.ofString "a-b not", Str.ofString "a-b No", Str.ofString "--", Str.ofString "a-b-c", Str.ofString "abcd-", Str.ofString "-abcd", Str.ofString "a.-", Str.ofString "-.a", Str.ofString "..-", Str.ofString "-..", Str.ofString ".a.-", Str.ofString "A-b", Str.ofString "a-B", Str.ofString "a1-", Str.ofString "a_b", Str.ofString "a - b", Str.ofString "un-? no no", Str.ofString "a-b\n", Str.ofString "-no", Str.ofString "n-o no", Str.ofString ".-.", Str.ofString "???-???", Str.ofString ".??-??.", Str.ofString "- no", Str.ofString "-", Str.ofString "-no no", Str.ofString ".abc-", Str.ofString "-abc.", Str.ofString "a-b no\n", Str.ofString "*-a", Str.ofString "un-?\t"]
theorem odds_ok : ∀ z ∈ odds, z.length ≤ 20 := by decide +kernel
theorem odds_len : odds.length = 38 := by decide +kernel
theorem odds_v : od1 ++ od2 ++ od3 ++ od4 = odds.map V.str := rfl
def signs : Str := Str.ofString "-.? abnoAz0~_*-."
theorem signs_len : signs.length = 16 := by decide +kernel
def lets : Str := Str.ofString "abcdefghijklmnopqrstuvwxyz?"
theorem lets_L : ∀ c ∈ tl lets, isL c = true ∨ c = 63 := by decide +kernel
theorem lets_all : (∀ k : Nat, k < 26 → 97 + k ∈ tl lets) ∧ 63 ∈ tl lets := by decide +kernel
theorem in_lets (c : Nat) : decide (c ∈ lets.cps.toList) = (isL c || decide (c = 63)) := by
  rw [Bool.eq_iff_iff, Bool.or_eq_true, decide_eq_true_iff, decide_eq_true_iff]
  constructor
  · exact lets_L c
  · rintro (h | h)
    · unfold isL at h
      rw [Bool.and_eq_true, decide_eq_true_iff, decide_eq_true_iff] at h
      have := lets_all.1 (c - 97) (by omega)
      rwa [show 97 + (c - 97) = c by omega] at this
    · rw [h]; exact lets_all.2
theorem cut_l1 (z : Str) {t : Nat} (h : t ≤ z.length) : (cutS z none (some (t : Int))).length = t := by
  rw [← tl_len, cut_to, List.length_take, tl_len]; omega
theorem cut_l2 (z : Str) (t : Nat) : (cutS z (some (t : Int)) none).length = z.length - t := by
  rw [← tl_len, cut_from, List.length_drop, tl_len]
theorem cut_n3a (z : Str) : tl (cutS z (some (-3)) none) = (tl z).drop (z.length - 3) := by
  unfold cutS tl
  rw [HT.sIx_none]
  have e : HT.sIx z.length 0 (some (-3)) = z.length - 3 := by
    show (if (-3 : Int) < 0 then ((-3 : Int) + (z.length : Int)).toNat else min (-3 : Int).toNat z.length) = z.length - 3
    rw [if_pos (by decide)]; omega
  rw [e]
  show (z.cps.toList.drop (z.length - 3)).take (z.length - (z.length - 3)) = _
  rw [List.take_of_length_le]
  rw [List.length_drop, Array.length_toList]
  have : z.length = z.cps.size := rfl
  omega
theorem cut_n3b (z : Str) : tl (cutS z none (some (-3))) = (tl z).take (z.length - 3) := by
  unfold cutS tl
  rw [HT.sIx_none]
  show (z.cps.toList.drop 0).take (HT.sIx z.length z.length (some (-3)) - 0) = _
  rw [List.drop_zero, Nat.sub_zero]
  congr 1
  show (if (-3 : Int) < 0 then ((-3 : Int) + (z.length : Int)).toNat else min (-3 : Int).toNat z.length) = z.length - 3
  rw [if_pos (by decide)]; omega
section
variable {P : Program} {w : World} {K : PySem.W.Frag} {mg : Str → Option Value} {base : Heap} {t1 t2 t3 t4 t5 : Tok}
/-! ### _law_odd -/
def spOdd : Sp := fun vs H Q _ => ∃ (c : Int), vs = [.int c] ∧ 0 ≤ c ∧ c < 38 ∧ ∀ H' z, Same H H' → z.length ≤ 20 → Q (.str z) H'
theorem scOdd : FnScope ["_law_pick", "_law_lines"] ["_law_pick"] (defScope sOdd) := ⟨rfl, rfl, rfl, by decide +kernel, rfl, by decide +kernel, by decide +kernel⟩
theorem ok_odd {f : Addr} {fd : FuncData} (F : Fun K "_law_odd" "_law_odd" sOdd f fd) : FnOk P w K mg base CX0 1 f fd ["_law_pick"] spOdd := by
  refine F.ok scOdd (fun vs H Q E h => ?_) (fun cdv A0 outer s H vs Q E hr h => ?_)
  · obtain ⟨c, rfl, _⟩ := h; rfl
  · obtain ⟨c, rfl, h0, h38, q⟩ := h
    refine ⟨_, (pss_cons (ps_set (i := 1) scOdd.nd rfl (.inl rfl) (pe_lst (pa_cons pe_str (pa_cons pe_str (pa_cons pe_str (pa_cons pe_str (pa_cons pe_str (pa_cons pe_str (pa_cons pe_str (pa_cons pe_str (pa_cons pe_str (pa_cons pe_str pa_nil))))))))))))
      (pss_cons (ps_set (i := 1) scOdd.nd rfl (.inl rfl) (pe_op op_cat (pv 1) (pe_lst (pa_cons pe_str (pa_cons pe_str (pa_cons pe_str (pa_cons pe_str (pa_cons pe_str (pa_cons pe_str (pa_cons pe_str (pa_cons pe_str (pa_cons pe_str (pa_cons pe_str pa_nil)))))))))))))
      (pss_cons (ps_set (i := 1) scOdd.nd rfl (.inl rfl) (pe_op op_cat (pv 1) (pe_lst (pa_cons pe_str (pa_cons pe_str (pa_cons pe_str (pa_cons pe_str (pa_cons pe_str (pa_cons pe_str (pa_cons pe_str (pa_cons pe_str (pa_cons pe_str pa_nil))))))))))))
      (pss_cons (ps_set (i := 1) scOdd.nd rfl (.inl rfl) (pe_op op_cat (pv 1) (pe_lst (pa_cons pe_str (pa_cons pe_str (pa_cons pe_str (pa_cons pe_str (pa_cons pe_str (pa_cons pe_str (pa_cons pe_str (pa_cons pe_str (pa_cons pe_str pa_nil))))))))))))
      (pss_one (ps_ret (pe_ix ix_list (pv 1) (pv 0) (fun _ _ => rfl)))))))), ?_⟩
    refine ⟨by show 10 ≤ sizeLine; decide, fun a1 n1 => ?_⟩
    have s1 := same_new n1 (o := .lst od1)
    have h1 : (upd H a1 (.lst od1)) a1 = some (.lst od1) := upd_same
    generalize upd H a1 (.lst od1) = H1 at s1 h1 ⊢
    refine ⟨.ref a1, rfl, by show 10 ≤ sizeLine; decide, fun a2 n2 => ⟨a1, a2, _, _, rfl, rfl, same_new n2 _ _ h1, upd_same, by show 10 + 10 ≤ sizeLine; decide, fun a3 n3 => ?_⟩⟩
    have s3 := s1.trans ((same_new n2 (o := .lst od2)).trans (same_new n3 (o := .lst (od1 ++ od2))))
    have h3 : (upd (upd H1 a2 (.lst od2)) a3 (.lst (od1 ++ od2))) a3 = some (.lst (od1 ++ od2)) := upd_same
    generalize upd (upd H1 a2 (.lst od2)) a3 (.lst (od1 ++ od2)) = H3 at s3 h3 ⊢
    refine ⟨.ref a3, rfl, by show 9 ≤ sizeLine; decide, fun a4 n4 => ⟨a3, a4, _, _, rfl, rfl, same_new n4 _ _ h3, upd_same, by show 20 + 9 ≤ sizeLine; decide, fun a5 n5 => ?_⟩⟩
    have s5 := s3.trans ((same_new n4 (o := .lst od3)).trans (same_new n5 (o := .lst (od1 ++ od2 ++ od3))))
    have h5 : (upd (upd H3 a4 (.lst od3)) a5 (.lst (od1 ++ od2 ++ od3))) a5 = some (.lst (od1 ++ od2 ++ od3)) := upd_same
    generalize upd (upd H3 a4 (.lst od3)) a5 (.lst (od1 ++ od2 ++ od3)) = H5 at s5 h5 ⊢
    refine ⟨.ref a5, rfl, by show 9 ≤ sizeLine; decide, fun a6 n6 => ⟨a5, a6, _, _, rfl, rfl, same_new n6 _ _ h5, upd_same, by show 29 + 9 ≤ sizeLine; decide, fun a7 n7 => ?_⟩⟩
    have s7 := s5.trans ((same_new n6 (o := .lst od4)).trans (same_new n7 (o := .lst (od1 ++ od2 ++ od3 ++ od4))))
    have h7 : (upd (upd H5 a6 (.lst od4)) a7 (.lst (od1 ++ od2 ++ od3 ++ od4))) a7 = some (.lst (odds.map V.str)) := upd_same
    generalize upd (upd H5 a6 (.lst od4)) a7 (.lst (od1 ++ od2 ++ od3 ++ od4)) = H7 at s7 h7 ⊢
    have hlt : c.toNat < odds.length := by rw [odds_len]; omega
    exact ⟨.ref a7, rfl, .int c, rfl, a7, _, c, .str (odds[c.toNat]'hlt), rfl, rfl, SqL.of h7, at_of (j := c.toNat) (by omega) (sAt (List.getElem?_eq_getElem hlt)), q _ _ s7 (odds_ok _ (List.getElem_mem hlt))⟩
/-! ### _law_line -/
def spLine : Sp := fun vs H Q _ => ∃ (c m : Int) (z : Str), vs = [.int c, .int m, .str z] ∧ Alpha z ∧ ∀ H' y, Same H H' → y.length ≤ 20 → Q (.str y) H'
abbrev nLn : List Str := ["_law_cell_here", "_law_more", "_law_letters_here", "_law_text", "_law_row_here", "_law_at", "_law_sign"]
theorem scLine : FnScope nLn ["_law_cell_here", "_law_more", "_law_letters_here"] (defScope sLine) := ⟨rfl, rfl, rfl, by decide +kernel, rfl, by decide +kernel, by decide +kernel⟩
theorem ok_line {f f_row f_joint f_written f_odd : Addr} {fd fd_row fd_joint fd_written fd_odd : FuncData} (B : Blt mg) (F : Fun K "_law_line" "_law_line" sLine f fd)
    (F_row : Fun K "_law_row" "_law_row" sRow f_row fd_row) (b_row : Binds K fd_row ["_law_cell_here", "_law_limits"] []) (g_row : mg "_law_row" = some (.ref f_row))
    (F_joint : Fun K "_law_joint" "_law_joint" sJoint f_joint fd_joint) (b_joint : Binds K fd_joint ["_law_cell_here", "_law_letters_here", "_law_share"] []) (g_joint : mg "_law_joint" = some (.ref f_joint))
    (F_written : Fun K "_law_written" "_law_written" sWritten f_written fd_written) (b_written : Binds K fd_written ["_law_row_here"] []) (g_written : mg "_law_written" = some (.ref f_written))
    (F_odd : Fun K "_law_odd" "_law_odd" sOdd f_odd fd_odd) (b_odd : Binds K fd_odd ["_law_pick"] []) (g_odd : mg "_law_odd" = some (.ref f_odd)) :
    FnOk P w K mg base CX0 3 f fd ["_law_cell_here", "_law_more", "_law_letters_here"] spLine := by
  have G_row : FnOk P w K mg base CX0 1 f_row fd_row ["_law_cell_here", "_law_limits"] (spRow K) := ok_row B F_row
  have G_joint : FnOk P w K mg base CX0 2 f_joint fd_joint ["_law_cell_here", "_law_letters_here", "_law_share"] spJoint := ok_joint B F_joint F_row b_row g_row
  have G_written : FnOk P w K mg base CX0 1 f_written fd_written ["_law_row_here"] spWritten := ok_written F_written
  have G_odd : FnOk P w K mg base CX0 1 f_odd fd_odd ["_law_pick"] spOdd := ok_odd F_odd
  refine F.ok scLine (fun vs H Q E h => ?_) (fun cdv A0 outer s H vs Q E hr h => ?_)
  · obtain ⟨c, m, z, rfl, _⟩ := h; rfl
  · obtain ⟨c, m, z0, rfl, hz0, q⟩ := h
    have hr1 : Room 1 _ := hr.mono (by decide)
    have hr2 : Room 2 _ := hr
    refine ⟨_, (pss_cons (ps_set (i := 3) scLine.nd rfl (.inl rfl) (pe_call G_written hr1 (by rfl) g_written F_written.kp b_written .nil pass0 (pa_cons (pe_call G_joint hr2 (by rfl) g_joint F_joint.kp b_joint .nil pass0 (pa_cons (pv 0) (pa_cons (pv 2) (pa_cons pe_int pa_nil)))) pa_nil)))
      (pss_cons (ps_set (i := 4) scLine.nd rfl (.inl rfl) (pe_call G_row hr1 (by rfl) g_row F_row.kp b_row .nil pass0 (pa_cons (pv 1) (pa_cons (pe_lst (pa_cons pe_int (pa_cons pe_int (pa_cons pe_int (pa_cons pe_int (pa_cons pe_int pa_nil)))))) pa_nil))))
      (pss_cons (ps_if (pt_cmpR op_eq (pe_ix ix_list (pv 4) pe_int (fun _ _ => rfl)) pe_int (nomark _))
      (pss_one (ps_ret (pe_call G_odd hr1 (by rfl) g_odd F_odd.kp b_odd .nil pass0 (pa_cons (pe_ix ix_list (pv 4) pe_int (fun _ _ => rfl)) pa_nil))))
      pss_nil)
      (pss_cons (ps_if (pt_cmpR op_eq (pe_ix ix_list (pv 4) pe_int (fun _ _ => rfl)) pe_int (nomark _))
      (pss_cons (ps_set (i := 5) scLine.nd rfl (.inl rfl) (pe_op op_modN (pe_callTy call_int1 (by rfl) B.int (by decide +kernel) (pa_cons (pe_ix ix_list (pv 4) pe_int (fun _ _ => rfl)) pa_nil)) (pe_op op_add (pe_callB call_len (by rfl) B.len PySem.boot_len (pa_cons (pv 3) pa_nil)) pe_int)))
       (pss_cons (ps_set (i := 6) scLine.nd rfl (.inl rfl) (pe_ix ix_str pe_str (pe_ix ix_list (pv 4) pe_int (fun _ _ => rfl)) (fun _ _ => rfl)))
       (pss_cons (ps_if (pt_cmpR op_eq (pe_ix ix_list (pv 4) pe_int (fun _ _ => rfl)) pe_int (nomark _))
       (pss_one (ps_ret (pe_op op_add_str (pe_op op_add_str (pe_slice sl_str (pv 3) po_none (po_some (pv 5))) (pv 6)) (pe_slice sl_str (pv 3) (po_some (pv 5)) po_none))))
       pss_nil)
       (pss_cons (ps_if (pt_cmpR op_eq (pe_ix ix_list (pv 4) pe_int (fun _ _ => rfl)) pe_int (nomark _))
       (pss_one (ps_ret (pe_op op_add_str (pe_op op_add_str (pe_slice sl_str (pv 3) po_none (po_some (pv 5))) (pv 6)) (pe_slice sl_str (pv 3) (po_some (pe_op op_add (pv 5) pe_int)) po_none))))
       pss_nil)
       (pss_one (ps_ret (pe_op op_add_str (pe_slice sl_str (pv 3) po_none (po_some (pv 5))) (pe_slice sl_str (pv 3) (po_some (pe_op op_add (pv 5) pe_int)) po_none))))))))
      pss_nil)
      (pss_one (ps_ret (pv 3))))))), ?_⟩
    refine ⟨.int c, rfl, .str z0, rfl, c, 1, z0, rfl, hz0, fun H0 t x s0 ht gx => ⟨t, x, rfl, ht, gx, fun z hz => ?_⟩⟩
    have hzl : z.length ≤ 10 := by
      have h1 := gx.l; have h2 := gx.r; have h3 := tl_len x.1; have h4 := tl_len x.2.1
      have hn : (noL x.2.2).length ≤ 3 := by cases x.2.2 <;> decide
      rw [← tl_len, hz]; unfold wrt
      simp only [List.length_append, List.length_cons]; omega
    refine ⟨.int m, rfl, by show 5 ≤ sizeLine; decide, fun l0 n0 => ⟨m, l0, [12, 38, 3, 12, 16], rfl, SqL.of upd_same, by decide, by decide, fun H1 R rs s1 nR hR hrow => ?_⟩⟩
    have s01 := s0.trans ((same_new n0 (o := .lst (([12, 38, 3, 12, 16] : List Int).map V.int))).trans s1)
    obtain ⟨g0, a0, b0, d0⟩ := hrow.2 0 12 rfl
    obtain ⟨g1, a1, b1, d1⟩ := hrow.2 1 38 rfl
    obtain ⟨g2, a2, b2, d2⟩ := hrow.2 2 3 rfl
    obtain ⟨g3, a3, b3, d3⟩ := hrow.2 3 12 rfl
    obtain ⟨g4, a4, b4, dd4⟩ := hrow.2 4 16 rfl
    have hsz : z.length ≤ sizeLine := Nat.le_trans hzl (by decide)
    have line : ∀ n : Nat, n ≤ 300 → n ≤ sizeLine := fun n h => Nat.le_trans h (by decide)
    refine ⟨.ref R, rfl, R, _, 0, .int g0, rfl, rfl, SqL.of hR, atI_nat (j := 0) (at1 a0), rfl, _, rfl, ite2 (fun _ => ?_) (fun _ => ?_)⟩
    · exact ⟨.ref R, rfl, R, _, 1, .int g1, rfl, rfl, SqL.of hR, atI_nat (j := 1) (at1 a1), g1, rfl, b1, d1, fun H2 y s2 hy => q _ y (s01.trans s2) hy⟩
    refine ⟨.ref R, rfl, R, _, 0, .int g0, rfl, rfl, SqL.of hR, atI_nat (j := 0) (at1 a0), rfl, _, rfl, ite2 (fun _ => ?_) (fun _ => ⟨.str z, rfl, q _ z s01 (by omega)⟩)⟩
    have hf : 0 ≤ g3.fmod (((z.length : Nat) : Int) + 1) ∧ g3.fmod (((z.length : Nat) : Int) + 1) < ((z.length : Nat) : Int) + 1 := ⟨Int.fmod_nonneg_of_pos _ (by omega), Int.fmod_lt_of_pos _ (by omega)⟩
    refine ⟨.ref R, rfl, R, _, 3, .int g3, rfl, rfl, SqL.of hR, atI_nat (j := 3) (at1 a3), .inl ⟨g3, rfl, .str z, rfl, .str z, z.length, rfl, ⟨hsz, rfl⟩, _, 1, rfl, rfl, g3, ((z.length : Nat) : Int) + 1, rfl, rfl, by omega, ?_⟩⟩
    dsimp only
    generalize g3.fmod (((z.length : Nat) : Int) + 1) = at0 at hf ⊢
    obtain ⟨t0, rfl⟩ : ∃ n : Nat, at0 = (n : Int) := ⟨at0.toNat, by omega⟩
    have ht0 : t0 ≤ z.length := by omega
    obtain ⟨ch, c1, _⟩ := pick (z := signs) b4 (by rw [signs_len]; exact dd4)
    refine ⟨.ref R, rfl, R, _, 4, .int g4, rfl, rfl, SqL.of hR, atI_nat (j := 4) (at1 a4), signs, g4, ch, rfl, rfl, by rw [signs_len]; decide, c1, ?_⟩
    have k1 := cut_l1 z ht0
    have k2 := cut_l2 z t0
    have e1 : ((t0 : Int) + 1) = ((t0 + 1 : Nat) : Int) := by omega
    have k3 : (cutS z (some ((t0 : Int) + 1)) none).length = z.length - (t0 + 1) := by rw [e1]; exact cut_l2 z (t0 + 1)
    have kc : (⟨#[ch]⟩ : Str).length = 1 := rfl
    refine ⟨.ref R, rfl, R, _, 2, .int g2, rfl, rfl, SqL.of hR, atI_nat (j := 2) (at1 a2), rfl, _, rfl, ite2 (fun _ => ?_) (fun _ => ?_)⟩
    · exact ⟨.str z, rfl, .int (t0 : Int), rfl, (t0 : Int), rfl, z, rfl, hsz, .str ⟨#[ch]⟩, rfl, _, _, rfl, rfl, line _ (by omega), .str z, rfl, .int (t0 : Int), rfl, (t0 : Int), rfl, z, rfl, hsz, _, _, rfl, rfl, line _ (by rw [len_add]; omega), q _ _ s01 (by rw [len_add, len_add]; omega)⟩
    refine ⟨.ref R, rfl, R, _, 2, .int g2, rfl, rfl, SqL.of hR, atI_nat (j := 2) (at1 a2), rfl, _, rfl, ite2 (fun _ => ?_) (fun _ => ?_)⟩
    · exact ⟨.str z, rfl, .int (t0 : Int), rfl, (t0 : Int), rfl, z, rfl, hsz, .str ⟨#[ch]⟩, rfl, _, _, rfl, rfl, line _ (by omega), .str z, rfl, .int (t0 : Int), rfl, (t0 : Int), 1, rfl, rfl, _, rfl, z, rfl, hsz, _, _, rfl, rfl, line _ (by rw [len_add]; omega), q _ _ s01 (by rw [len_add, len_add]; omega)⟩
    · exact ⟨.str z, rfl, .int (t0 : Int), rfl, (t0 : Int), rfl, z, rfl, hsz, .str z, rfl, .int (t0 : Int), rfl, (t0 : Int), 1, rfl, rfl, _, rfl, z, rfl, hsz, _, _, rfl, rfl, line _ (by omega), q _ _ s01 (by rw [len_add]; omega)⟩
/-! ### _law_is_part -/
def spLPart : Sp := fun vs H Q _ => ∃ (z : Str) (e : Int), vs = [.str z, .int e] ∧ z.length ≤ 100 ∧ Q (.bl (partB e (tl z))) H
theorem scLPart : FnScope ["_law_part", "_law_dot", "_law_k"] ["_law_part", "_law_dot"] (defScope sLPart) := ⟨rfl, rfl, rfl, by decide +kernel, rfl, by decide +kernel, by decide +kernel⟩
theorem ok_lpart {f : Addr} {fd : FuncData} (B : Blt mg) (F : Fun K "_law_is_part" "_law_is_part" sLPart f fd) : FnOk P w K mg base CX0 1 f fd ["_law_part", "_law_dot"] spLPart := by
  refine F.ok scLPart (fun vs H Q E h => ?_) (fun cdv A0 outer s H vs Q E hr h => ?_)
  · obtain ⟨z, e, rfl, _⟩ := h; rfl
  · obtain ⟨z, e, rfl, hl, q⟩ := h
    refine ⟨_, (pss_cons (ps_if (pt_cmpR op_gt (pe_callB call_len (by rfl) B.len PySem.boot_len (pa_cons (pv 0) pa_nil)) pe_int (nomark _))
      (pss_one (ps_ret pe_bl))
      pss_nil)
      (pss_cons (ps_for (PassesOwn.never) rfl (pi_range1 (by rfl) B.range (pa_cons (pe_callB call_len (by rfl) B.len PySem.boot_len (pa_cons (pv 0) pa_nil)) pa_nil)) (pg_name (i := 2) scLPart.nd rfl (.inl rfl))
      (pss_cons (ps_if (PW.pt (pw_and (pt_cmpR op_eq (pe_ix ix_str (pv 0) (pv 2) (fun _ _ => rfl)) pe_str (nomark _)) (pw_and1 (pt_cmpR op_eq (pv 2) (pv 1) (nomark _)))))
       (pss_one ps_continue)
       pss_nil)
       (pss_one (ps_if (pt_cmpR op_notIn_sign (pe_ix ix_str (pv 0) (pv 2) (fun _ _ => rfl)) pe_str (by with_unfolding_all rfl))
       (pss_one (ps_ret pe_bl))
       pss_nil))))
      (pss_one (ps_ret pe_bl)))), ?_⟩
    have hzt := tl_len z
    have hsz : z.length ≤ sizeLine := Nat.le_trans hl (by decide)
    refine ⟨.str z, rfl, .str z, z.length, rfl, ⟨hsz, rfl⟩, _, 3, rfl, rfl, _, rfl, ?_⟩
    by_cases h3 : z.length ≤ 3
    · rw [decide_eq_false (by omega)]
      have hpb : partB e (tl z) = allB e 0 (tl z) := by unfold partB; rw [decide_eq_true (by omega), Bool.true_and]
      rw [hpb] at q
      refine iteF ⟨.str z, rfl, .str z, z.length, rfl, ⟨hsz, rfl⟩, (z.length : Int), rfl, by omega, by omega, ?_⟩
      rw [Int.toNat_natCast]
      refine for_range (lo := 0) (n := z.length) (fun i σ H' => ∃ y2, σ = [some (.str z), some (.int e), y2] ∧ H' = H ∧ allB e 0 (tl z) = allB e i ((tl z).drop i)) ⟨none, rfl, rfl, rfl⟩ ?_ ?_
      · rintro i σ H' hi ⟨y2, rfl, rfl, hall⟩
        have e0 : (0 : Int) + (i : Int) = (i : Int) := by omega
        rw [e0]
        have hlt : i < (tl z).length := by omega
        have hc : (tl z)[i]? = some ((tl z)[i]'hlt) := List.getElem?_eq_getElem hlt
        generalize (tl z)[i]'hlt = c at hc
        have hat : atI z.cps.toList (i : Int) = some c := atI_nat hc
        rw [allB_at hc] at hall
        have go : chB e i c = true → ∃ y2, ([some (V.str z), some (V.int e), some (V.int (i : Int))] : L2.St) = [some (.str z), some (.int e), y2] ∧ H' = H' ∧ allB e 0 (tl z) = allB e (i + 1) ((tl z).drop (i + 1)) := fun h => ⟨_, rfl, rfl, by rw [hall, h, Bool.true_and]⟩
        have no : chB e i c = false → Q (.bl false) H' := fun h => by
          rw [hall, h, Bool.false_and] at q; exact q
        unfold chB at go no
        have rest : (decide (c = 46) && decide ((i : Int) = e)) = false → _ := fun (h : (decide (c = 46) && decide ((i : Int) = e)) = false) => h
        refine ⟨.str z, rfl, .int (i : Int), rfl, z, (i : Int), c, rfl, rfl, hsz, hat, rfl, _, rfl, ?_⟩
        rw [eD, eqS]
        have last : (decide (c = 46) && decide ((i : Int) = e)) = false → (if (!decide (c ∈ lets.cps.toList)) = true then Q (.bl false) H' else ∃ y2, ([some (V.str z), some (V.int e), some (V.int (i : Int))] : L2.St) = [some (.str z), some (.int e), y2] ∧ H' = H' ∧ allB e 0 (tl z) = allB e (i + 1) ((tl z).drop (i + 1))) := fun h => by
          rw [h, Bool.or_false] at go no
          rw [in_lets]
          cases hx : (isL c || decide (c = 63)) with
          | true => exact iteF (go hx)
          | false => exact iteT (no hx)
        refine ite2 (fun h1 => ?_) (fun h1 => ?_)
        · have f1 : c = 46 := of_decide_eq_true h1
          refine ⟨.int (i : Int), rfl, .int e, rfl, rfl, _, rfl, ?_⟩
          rw [eqI]
          refine ite2 (fun h2 => go ?_) (fun h2 => ?_)
          · rw [decide_eq_true f1, h2]; simp
          · have f2 : decide ((i : Int) = e) = false := by simpa using h2
            exact ⟨.str z, rfl, .int (i : Int), rfl, z, (i : Int), c, rfl, rfl, hsz, hat, c, lets, rfl, rfl, _, rfl, last (by rw [f2, Bool.and_false])⟩
        · have f1 : decide (c = 46) = false := by simpa using h1
          exact ⟨.str z, rfl, .int (i : Int), rfl, z, (i : Int), c, rfl, rfl, hsz, hat, c, lets, rfl, rfl, _, rfl, last (by rw [f1, Bool.false_and])⟩
      · rintro σ H' ⟨y2, rfl, rfl, hall⟩
        have hd : (tl z).drop z.length = [] := List.drop_eq_nil_of_le (by omega)
        rw [hall, hd] at q
        exact q
    · rw [decide_eq_true (by omega)]
      have hpb : partB e (tl z) = false := by unfold partB; rw [decide_eq_false (by omega)]; rfl
      rw [hpb] at q
      exact iteT q
/-! ### _law_is_written -/
def spLWr : Sp := fun vs H Q _ => ∃ (z : Str), vs = [.str z] ∧ z.length ≤ 100 ∧ Q (.bl (rdB (tl z))) H
abbrev nLWr : List Str := ["_law_text", "_law_at", "_law_right"]
theorem scLWr : FnScope nLWr ["_law_text"] (defScope sLWritten) := ⟨rfl, rfl, rfl, by decide +kernel, rfl, by decide +kernel, by decide +kernel⟩
theorem ok_lwr {f f_lpart : Addr} {fd fd_lpart : FuncData} (B : Blt mg) (F : Fun K "_law_is_written" "_law_is_written" sLWritten f fd)
    (F_lpart : Fun K "_law_is_part" "_law_is_part" sLPart f_lpart fd_lpart) (b_lpart : Binds K fd_lpart ["_law_part", "_law_dot"] []) (g_lpart : mg "_law_is_part" = some (.ref f_lpart)) :
    FnOk P w K mg base CX0 2 f fd ["_law_text"] spLWr := by
  have G_lpart : FnOk P w K mg base CX0 1 f_lpart fd_lpart ["_law_part", "_law_dot"] spLPart := ok_lpart B F_lpart
  refine F.ok scLWr (fun vs H Q E h => ?_) (fun cdv A0 outer s H vs Q E hr h => ?_)
  · obtain ⟨z, rfl, _⟩ := h; rfl
  · obtain ⟨z, rfl, hl, q⟩ := h
    rw [← read_eq] at q
    refine ⟨_, (Evl.pss_cut (ps_if (pt_cmpR op_eq (pe_slice sl_str (pv 0) (po_some (pe_un un_neg pe_int)) po_none) pe_str (nomark _))
      (pss_one (ps_set (i := 0) scLWr.nd rfl (.inl rfl) (pe_slice sl_str (pv 0) po_none (po_some (pe_un un_neg pe_int)))))
      pss_nil)
      (pss_cons (ps_set (i := 1) scLWr.nd rfl (.inl rfl) (pe_m1 PySem.F.slot_str_find PySem.F.type_str_find mt_find (pv 0) pe_str))
      (pss_cons (ps_if (pt_cmpR op_lt (pv 1) pe_int (nomark _))
      (pss_one (ps_ret pe_bl))
      pss_nil)
      (pss_cons (ps_set (i := 2) scLWr.nd rfl (.inl rfl) (pe_slice sl_str (pv 0) (po_some (pe_op op_add (pv 1) pe_int)) po_none))
      (pss_one (ps_ret (pe_and (pe_call G_lpart hr (by rfl) g_lpart F_lpart.kp b_lpart .nil pass0 (pa_cons (pe_slice sl_str (pv 0) po_none (po_some (pv 1))) (pa_cons pe_int pa_nil))) (pe_one (pe_call G_lpart hr (by rfl) g_lpart F_lpart.kp b_lpart .nil pass0 (pa_cons (pv 2) (pa_cons (pe_op op_sub (pe_callB call_len (by rfl) B.len PySem.boot_len (pa_cons (pv 2) pa_nil)) pe_int) pa_nil))))))))))), ?_⟩
    have hzt := tl_len z
    have hsz : z.length ≤ sizeLine := Nat.le_trans hl (by decide)
    refine ⟨fun σ H' => ∃ y : Str, σ = [some (.str y), none, none] ∧ H' = H ∧ tl y = cutNo (tl z), ?_, ?_⟩
    · refine ⟨.str z, rfl, 3, rfl, _, rfl, z, rfl, hsz, rfl, _, rfl, ?_⟩
      have hd : decide (V.str (cutS z (some (-3)) none) = V.str (Str.ofString " no")) = endNo (tl z) := by
        rw [eqT, cut_n3a, tl_no]; unfold endNo; rw [hzt]
      rw [hd]
      cases hE : endNo (tl z) with
      | true =>
        refine iteT ⟨.str z, rfl, 3, rfl, _, rfl, z, rfl, hsz, _, rfl, rfl, ?_⟩
        rw [cut_n3b]; unfold cutNo; rw [hE, if_pos rfl, hzt]
      | false => exact iteF ⟨z, rfl, rfl, by unfold cutNo; rw [hE, if_neg Bool.false_ne_true]⟩
    rintro σ H' ⟨y, rfl, rfl, hy⟩
    have hyl : y.length ≤ 100 := by rw [← tl_len, hy]; have := cutNo_len (tl z); omega
    have hysz : y.length ≤ sizeLine := Nat.le_trans hyl (by decide)
    obtain ⟨fd1, fd2⟩ := find_dash y
    unfold lwB okB at q
    rw [← hy] at q
    refine ⟨.str y, rfl, ⟨_, rfl⟩, y, _, rfl, rfl, ?_⟩
    by_cases h45 : 45 ∈ tl y
    · rw [fd2 h45]
      rw [decide_eq_true h45, Bool.true_and] at q
      obtain ⟨e, hn⟩ := split_dash h45
      generalize hn0 : (lhs (tl y)).length = n
      refine ⟨.int (n : Int), rfl, (n : Int), 0, rfl, rfl, _, rfl, ?_⟩
      rw [decide_eq_false (by omega)]
      refine iteF ⟨.str y, rfl, .int (n : Int), rfl, (n : Int), 1, rfl, rfl, _, rfl, y, rfl, hysz, ?_⟩
      have hr : tl (cutS y (some ((n : Int) + 1)) none) = rhs (tl y) := by
        rw [show ((n : Int) + 1) = ((n + 1 : Nat) : Int) by omega, cut_from, ← hn0]
        have h2 : ((lhs (tl y) ++ 45 :: rhs (tl y))).drop ((lhs (tl y)).length + 1) = rhs (tl y) := by
          rw [List.drop_append, List.drop_eq_nil_of_le (by omega), Nat.add_sub_cancel_left]; rfl
        rw [← e] at h2; exact h2
      have hl2 : tl (cutS y none (some (n : Int))) = lhs (tl y) := by
        rw [cut_to, ← hn0]
        have h2 : ((lhs (tl y) ++ 45 :: rhs (tl y))).take (lhs (tl y)).length = lhs (tl y) := List.take_left
        rw [← e] at h2; exact h2
      dsimp only
      have lr : (cutS y (some ((n : Int) + 1)) none).length ≤ 100 := Nat.le_trans (cutS_length _ _ _) hyl
      have ll : (cutS y none (some (n : Int))).length ≤ 100 := Nat.le_trans (cutS_length _ _ _) hyl
      generalize cutS y (some ((n : Int) + 1)) none = r at hr lr ⊢
      refine ⟨.str y, rfl, .int (n : Int), rfl, _, rfl, y, rfl, hysz, ?_⟩
      generalize cutS y none (some (n : Int)) = l at hl2 ll ⊢
      rw [← hl2, ← hr, tl_len] at q
      refine ⟨l, 0, rfl, ll, _, rfl, ?_⟩
      cases e1 : partB 0 (tl l) with
      | false => rw [e1, Bool.false_and] at q; exact iteF q
      | true =>
        rw [e1, Bool.true_and] at q
        exact iteT ⟨.str r, rfl, .str r, rfl, .str r, r.length, rfl, ⟨Nat.le_trans lr (by decide), rfl⟩, _, 1, rfl, rfl, r, _, rfl, lr, q⟩
    · rw [fd1 h45]
      rw [decide_eq_false h45, Bool.false_and] at q
      refine ⟨.int (-1), rfl, -1, 0, rfl, rfl, _, rfl, ?_⟩
      rw [decide_eq_true (by decide)]
      exact iteT q
end
end K28

set_option maxRecDepth 100000
set_option maxHeartbeats 8000000
namespace K28
section
open PySem PySem.Spec PyProof.Rows L2 PySem.W PySem.Calls
/-! isinstance of a caught error whose own dict stands -/
section
variable {prog : Program} {w : World} {A : Around} {E : Value → Shared → Prop} {s : Shared} {K : Frag} {x D : Addr} {ox : Obj} {od : Option Obj}
theorem find_cls (hc : (clsIn K D).isSome = true) (C : L2.ExcC K D) : findObj K D od "__class__" = some (.bind (.builtin "getset_descriptor.__get__") (.builtin "object.__class__")) := by
  obtain ⟨cd, e⟩ := Option.isSome_iff_exists.mp hc
  unfold findObj
  rw [e, Option.bind_some, C.ha, Option.bind_some]; simp [C.hn, C.ht]
theorem ask_cls {Q : Option Value → Shared → Prop} (C : L2.ExcC K D) (X : K.In s.heap) (I : InstAt s.heap x ox D od) (h : Q (some (.ref D)) { s with toks := s.toks + 1 }) :
    wpAny (model prog w) A (getAttr? (.ref x) "__class__") Q E s := by
  have hf := find_cls (od := od) (by obtain ⟨c0, e0, _⟩ := any_some C.hd; rw [e0]; rfl) C
  obtain ⟨hp, g, dr, tk, os⟩ := s
  have A0 := I.type (M := model prog w); have A1 := looks_findIn (M := model prog w) X C.hg; have A2 := looks_findIn (M := model prog w) X C.hk
  have A3 := looks_find (M := model prog w) X I hf; have A4 : Looks (model prog w) hp (isInstance (.ref x) (.type "BaseException")) true := A0.andThen (looks_subIn X C.hs)
  have b0 : (false && onTheHeap (Value.builtin "BaseException.__getattribute__")) = false := rfl
  have b2 : (Value.builtin "BaseException.__getattribute__" == Value.builtin "object.__getattribute__") = false := by decide +kernel
  have b1 : (onTheHeap (Value.ref D) && Value.builtin "BaseException.__getattribute__" == Value.builtin "object.__getattribute__") = false := by rw [b2]; rfl
  unfold getAttr? getAttrBy? getAttrBy
  refine wpAny_bind (wpAny_mkText (wpAny_bind (wpAny_attempt (wpAny_holding (wpAny_bind (A0.at (wpAny_bind (A1.at ?_))))))))
  show wpAny _ _ (if (onTheHeap (Value.ref D) && Value.builtin "BaseException.__getattribute__" == Value.builtin "object.__getattribute__") = true then _ else _) _ _ _
  rw [b1, if_neg Bool.false_ne_true]; unfold getAttrByItsOwn hookBefore
  refine wpAny_bind ?_; rw [if_pos (show onTheHeap (Value.ref D) = true from rfl)]; refine A2.at ?_
  refine wpAny_bind (wpAny_attempt (wpAny_holding ?_)); unfold callGetattribute; rw [b0, if_neg Bool.false_ne_true]; unfold boundAndCalled
  rw [PySem.F.excAttr_ValueError.ga.bind (.ref x)]; refine wpAny_bind (wpAny_pure ?_)
  show wpAny _ _ (call (.builtin "BaseException.__getattribute__") [.ref x, .str "__class__" tk]) _ _ _
  refine wpAny_call (codeAny_call_builtin PySem.F.excAttr_ValueError.ga.plain PySem.F.entry_bexc_ga ?_)
  refine @check_slot (model prog w) _ _ ⟨hp, g, dr, tk + 1, os⟩ "BaseException.__getattribute__" "BaseException" "__getattribute__" (.ref x) [.str "__class__" tk] [] _ (by decide +kernel) (by decide +kernel) A4 (PySem.F.args_bexc_ga (.ref x) (.str "__class__" tk)) ?_
  unfold Builtin.«object.__getattribute__»; refine wpAny_bind (wpAny_of_eq (a := ((Value.ref x : Value), [Value.str "__class__" tk])) (by first | rfl | (simp only [slotArgs]; rfl)) ?_)
  refine wpAny_bind (wpAny_pure (wpAny_bind (A0.at (wpAny_bind (A3.at ?_)))))
  show wpAny _ _ (holding [Value.builtin "object.__class__"] (call (.builtin "getset_descriptor.__get__") [.builtin "object.__class__", .ref x, .ref D]) >>= ret) _ _ _
  refine wpAny_bind (wpAny_holding (wpAny_call (class_get (s := ⟨hp, g, dr, tk + 1, os⟩) (ox := ox) (od := od) X I C.hm ?_))); refine wpAny_pure ?_
  show wpAny _ _ (handedOut (.ref D)) _ _ _; rw [handedOut_of (v := .ref D) rfl]
  first | exact wpAny_pure (wpAny_pure h) | exact wpAny_pure h | exact wpAny_pure (wpAny_bind (wpAny_pure (wpAny_pure h)))
theorem kit_err (C : L2.ExcC K D) : KitX K (.ref x) (.ref D) (fun h => InstAt h x ox D od) := by
  obtain ⟨cd, hc, _⟩ := any_some C.hd
  refine ⟨fun _ _ _ I => I.type, fun M h X _ => ?_, fun h tp dd its n sl X htp => ?_, fun X I k => ask_cls C X I k⟩
  · unfold clsIn at hc
    split at hc
    · rename_i o1 o2 o3 o4 ho
      intro A' Q' E' s' k q; unfold isType loadHead; exact wpAny_bind (wpAny_loadPart (k _ _ (X _ _ ho)) (wpAny_pure q))
    · cases hc
  · refine Bool.eq_false_iff.mpr fun q => ?_
    have e : D = tp := Value.ref.inj (beq_iff_eq.mp q); subst e
    unfold clsIn at hc
    split at hc
    · rename_i o1 o2 o3 o4 ho
      have z := (X _ _ ho).symm.trans htp; cases z
    · cases hc
end
/-- isinstance(e, c), e the caught error at a, of class D, its own dict at dd -/
def rIsD (K : PySem.W.Frag) (D a : Addr) (cls : Value) (d : Option Addr) : List V → Hp → VK → Prop := fun xs H Q => ∃ (c : V) (cv : Value) (b : Bool) (dd : Addr) (fs : List (Str × V)),
  cls = .ref D ∧ xs = [.ref a, c] ∧ (∀ u, RelV c u → u = cv) ∧ kitOne K (.ref D) cv = some b ∧ d = some dd ∧ H dd = some (.xd fs) ∧ Q (.bl b) H
theorem call_isD {X : Cx} {a D : Addr} {oe : Obj} {cls : Value} {d : Option Addr} {pn : List (Addr × Obj)} (C : ExcC X.K D) (hz : Zc cls d oe) (hf : ∃ vs, oe.data = .fields vs) : CallR (X.suite a ((a, oe) :: pn)) (.builtin "isinstance") (rIsD X.K D a cls d) := by
  intro pins s σ H xs us Q I r h
  obtain ⟨c, cv, b, dd, fs, ecl, rfl, hcv, e, ed, ea, q⟩ := h
  subst ecl
  subst ed
  obtain ⟨u1, u2, rfl, r1, r2⟩ := vals2 r
  obtain rfl : u1 = Value.ref a := r1
  have ec := hcv _ r2; subst ec
  obtain ⟨hget, _⟩ := I.pin (a, oe) (List.mem_append_left _ List.mem_cons_self)
  obtain ⟨vs, hv⟩ := hf
  have hx : ObjOk X.prog X.w H s.heap dd (.xd fs) := I.hok dd _ ea
  obtain ⟨mA, hns, hr⟩ := hx
  obtain ⟨od, ho, hl⟩ := lookIn_ns hns
  have J : InstAt s.heap a oe D (some od) := ⟨hget, hz.1, by unfold PySem.W.notCls; rw [hv] <;> rfl, by rw [hz.2]; exact ho⟩
  exact kia_one (kit_err C) I.kIn J e (fun z => nomatch z) fun tk => ⟨.bl b, H, I.kept (t' := tk) fun _ _ z => z, rfl, q⟩
end
open PySem PySem.Spec PyProof.Rows L2 RJ
section
variable {P : Program} {w : World} {K : PySem.W.Frag} {mg : Str → Option Value} {base : Heap} {t1 t2 t3 t4 t5 : Tok}
/-! ### _law_same -/
theorem ty_txt {H : Hp} {z : Str} : TyX K H (.str z) (.type "str") := .base (.str z)
theorem ty_lst {H : Hp} {a : Addr} {xs : List V} (h : H a = some (.lst xs)) : TyX K H (.ref a) (.type "list") := .base (.lst h)
def Leaf (v : V) : Prop := (∃ z, v = .str z) ∨ ∃ i, v = .int i
def spLeaf : Sp := fun vs H Q _ => ∃ v, vs = [v, v] ∧ Leaf v ∧ Q (.bl true) H
theorem scSame : FnScope ["_law_one", "_law_two", "_law_k"] ["_law_one", "_law_two"] (defScope sSame) := ⟨rfl, rfl, rfl, by decide +kernel, rfl, by decide +kernel, by decide +kernel⟩
theorem ok_leaf {f : Addr} {fd : FuncData} (B : Blt mg) (F : Fun K "_law_same" "_law_same" sSame f fd) : FnOk P w K mg base CX0 1 f fd ["_law_one", "_law_two"] spLeaf := by
  refine F.ok scSame (fun vs H Q E h => ?_) (fun cdv A outer s H vs Q E hr h => ?_)
  · obtain ⟨v, rfl, _⟩ := h; rfl
  · obtain ⟨v, rfl, hv, q⟩ := h
    refine ⟨_, (pss_cons (ps_if (pt_cmpR op_isN (pv 1) pe_non (nomark _)) (pss_one ps_never) pss_nil)
      (pss_cons (ps_if (pt_val (pe_callB call_isi (by rfl) B.isi (by decide +kernel) (pa_cons (pv 1) (pa_cons (pe_bltn (v := .ty "bool") (by rfl) B.bool (by decide +kernel) rfl) pa_nil)))) (pss_one ps_never) pss_nil)
      (pss_cons (ps_if (pt_val (pe_callB call_isi (by rfl) B.isi (by decide +kernel) (pa_cons (pv 1) (pa_cons (pe_bltn (v := .ty "int") (by rfl) B.int (by decide +kernel) rfl) pa_nil))))
      (pss_one (ps_ret (pe_and (pe_callB call_isi (by rfl) B.isi (by decide +kernel) (pa_cons (pv 0) (pa_cons (pe_bltn (v := .ty "int") (by rfl) B.int (by decide +kernel) rfl) pa_nil))) (pe_and (pe_not (pe_callB call_isi (by rfl) B.isi (by decide +kernel) (pa_cons (pv 0) (pa_cons (pe_bltn (v := .ty "bool") (by rfl) B.bool (by decide +kernel) rfl) pa_nil)))) (pe_one (pe_cmpR op_eq (pv 0) (pv 1) (nomark _)))))))
      pss_nil)
      (pss_cons (ps_if (pt_val (pe_callB call_isi (by rfl) B.isi (by decide +kernel) (pa_cons (pv 1) (pa_cons (pe_bltn (v := .ty "str") (by rfl) B.str (by decide +kernel) rfl) pa_nil))))
      (pss_one (ps_ret (pe_and (pe_callB call_isi (by rfl) B.isi (by decide +kernel) (pa_cons (pv 0) (pa_cons (pe_bltn (v := .ty "str") (by rfl) B.str (by decide +kernel) rfl) pa_nil))) (pe_one (pe_cmpR op_eq (pv 0) (pv 1) (nomark _))))))
      pss_nil)
      (pss_cons ps_never (pss_cons ps_never (pss_cons ps_never (pss_one ps_never)))))))), ?_⟩
    rcases hv with ⟨z, rfl⟩ | ⟨i, rfl⟩
    · refine ⟨.str z, rfl, rfl, _, rfl, iteF ?_⟩
      refine ⟨.str z, rfl, .str z, .ty "bool", .type "str", .type "bool", false, rfl, .ty "bool", ty_txt, kit_ty (by decide +kernel), _, rfl, iteF ?_⟩
      refine ⟨.str z, rfl, .str z, .ty "int", .type "str", .type "int", false, rfl, .ty "int", ty_txt, kit_ty (by decide +kernel), _, rfl, iteF ?_⟩
      refine ⟨.str z, rfl, .str z, .ty "str", .type "str", .type "str", true, rfl, .ty "str", ty_txt, kit_ty (by decide +kernel), _, rfl, iteT ?_⟩
      refine ⟨.str z, rfl, .str z, .ty "str", .type "str", .type "str", true, rfl, .ty "str", ty_txt, kit_ty (by decide +kernel), _, rfl, iteT ?_⟩
      refine ⟨.str z, rfl, .str z, rfl, rfl, ?_⟩
      rw [decide_eq_true rfl]; exact q
    · refine ⟨.int i, rfl, rfl, _, rfl, iteF ?_⟩
      refine ⟨.int i, rfl, .int i, .ty "bool", .type "int", .type "bool", false, rfl, .ty "bool", .base (.int i), kit_ty (by decide +kernel), _, rfl, iteF ?_⟩
      refine ⟨.int i, rfl, .int i, .ty "int", .type "int", .type "int", true, rfl, .ty "int", .base (.int i), kit_ty (by decide +kernel), _, rfl, iteT ?_⟩
      refine ⟨.int i, rfl, .int i, .ty "int", .type "int", .type "int", true, rfl, .ty "int", .base (.int i), kit_ty (by decide +kernel), _, rfl, iteT ?_⟩
      refine ⟨.int i, rfl, .int i, .ty "bool", .type "int", .type "bool", false, rfl, .ty "bool", .base (.int i), kit_ty (by decide +kernel), _, rfl, _, rfl, iteT ?_⟩
      refine ⟨.int i, rfl, .int i, rfl, rfl, ?_⟩
      rw [decide_eq_true rfl]; exact q

theorem ty_tup {H : Hp} {a : Addr} {xs : List V} (h : H a = some (.tup xs)) : TyX K H (.ref a) (.type "tuple") := .base (.tup h)
/-- the same through and through, n deep -/
def SameV : Nat → Hp → V → V → Prop
  | 0, _, x, y => x = y ∧ Leaf x
  | n + 1, H, x, y => (x = y ∧ Leaf x) ∨ ∃ (a b : Addr) (xs ys : List V), x = .ref a ∧ y = .ref b ∧ ((H a = some (.lst xs) ∧ H b = some (.lst ys)) ∨ (H a = some (.tup xs) ∧ H b = some (.tup ys))) ∧ xs.length = ys.length ∧ ys.length ≤ 1000 ∧
      ∀ (i : Nat) u v, xs[i]? = some u → ys[i]? = some v → SameV n H u v
def spSame (n : Nat) : Sp := fun vs H Q _ => ∃ x y, vs = [x, y] ∧ SameV n H x y ∧ Q (.bl true) H
theorem ok_same1 {n : Nat} {f_same : Addr} {fd_same : FuncData} (B : Blt mg) (F_same : Fun K "_law_same" "_law_same" sSame f_same fd_same) (b_same : Binds K fd_same ["_law_one", "_law_two"] []) (g_same : mg "_law_same" = some (.ref f_same))
    (G_same : FnOk P w K mg base CX0 (n + 1) f_same fd_same ["_law_one", "_law_two"] (spSame n)) : FnOk P w K mg base CX0 (n + 2) f_same fd_same ["_law_one", "_law_two"] (spSame (n + 1)) := by
  refine F_same.ok scSame (fun vs H Q E h => ?_) (fun cdv A outer s H vs Q E hr h => ?_)
  · obtain ⟨x, y, rfl, _⟩ := h; rfl
  · obtain ⟨x, y, rfl, hv, q⟩ := h
    refine ⟨_, (pss_cons (ps_if (pt_cmpR op_isN (pv 1) pe_non (nomark _)) (pss_one ps_never) pss_nil)
      (pss_cons (ps_if (pt_val (pe_callB call_isi (by rfl) B.isi (by decide +kernel) (pa_cons (pv 1) (pa_cons (pe_bltn (v := .ty "bool") (by rfl) B.bool (by decide +kernel) rfl) pa_nil)))) (pss_one ps_never) pss_nil)
      (pss_cons (ps_if (pt_val (pe_callB call_isi (by rfl) B.isi (by decide +kernel) (pa_cons (pv 1) (pa_cons (pe_bltn (v := .ty "int") (by rfl) B.int (by decide +kernel) rfl) pa_nil))))
      (pss_one (ps_ret (pe_and (pe_callB call_isi (by rfl) B.isi (by decide +kernel) (pa_cons (pv 0) (pa_cons (pe_bltn (v := .ty "int") (by rfl) B.int (by decide +kernel) rfl) pa_nil))) (pe_and (pe_not (pe_callB call_isi (by rfl) B.isi (by decide +kernel) (pa_cons (pv 0) (pa_cons (pe_bltn (v := .ty "bool") (by rfl) B.bool (by decide +kernel) rfl) pa_nil)))) (pe_one (pe_cmpR op_eq (pv 0) (pv 1) (nomark _)))))))
      pss_nil)
      (pss_cons (ps_if (pt_val (pe_callB call_isi (by rfl) B.isi (by decide +kernel) (pa_cons (pv 1) (pa_cons (pe_bltn (v := .ty "str") (by rfl) B.str (by decide +kernel) rfl) pa_nil))))
      (pss_one (ps_ret (pe_and (pe_callB call_isi (by rfl) B.isi (by decide +kernel) (pa_cons (pv 0) (pa_cons (pe_bltn (v := .ty "str") (by rfl) B.str (by decide +kernel) rfl) pa_nil))) (pe_one (pe_cmpR op_eq (pv 0) (pv 1) (nomark _))))))
      pss_nil)
      (pss_cons (ps_if (PW.pt (pw_and (pt_val (pe_callB call_isi (by rfl) B.isi (by decide +kernel) (pa_cons (pv 1) (pa_cons (pe_bltn (v := .ty "tuple") (by rfl) B.tuple (by decide +kernel) rfl) pa_nil)))) (pw_and1 (pt_not (pt_val (pe_callB call_isi (by rfl) B.isi (by decide +kernel) (pa_cons (pv 0) (pa_cons (pe_bltn (v := .ty "tuple") (by rfl) B.tuple (by decide +kernel) rfl) pa_nil)))))))) (pss_one ps_never) pss_nil)
      (pss_cons (ps_if (PW.pt (pw_and (pt_val (pe_callB call_isi (by rfl) B.isi (by decide +kernel) (pa_cons (pv 1) (pa_cons (pe_bltn (v := .ty "list") (by rfl) B.list (by decide +kernel) rfl) pa_nil)))) (pw_and1 (pt_not (pt_val (pe_callB call_isi (by rfl) B.isi (by decide +kernel) (pa_cons (pv 0) (pa_cons (pe_bltn (v := .ty "list") (by rfl) B.list (by decide +kernel) rfl) pa_nil)))))))) (pss_one ps_never) pss_nil)
      (pss_cons (ps_if (PW.pt (pw_or (pt_val (pe_callB call_isi (by rfl) B.isi (by decide +kernel) (pa_cons (pv 1) (pa_cons (pe_bltn (v := .ty "tuple") (by rfl) B.tuple (by decide +kernel) rfl) pa_nil)))) (pw_or1 (pt_val (pe_callB call_isi (by rfl) B.isi (by decide +kernel) (pa_cons (pv 1) (pa_cons (pe_bltn (v := .ty "list") (by rfl) B.list (by decide +kernel) rfl) pa_nil)))))))
       (pss_cons (ps_if (pt_cmpR op_ne (pe_callB call_len (by rfl) B.len PySem.boot_len (pa_cons (pv 0) pa_nil)) (pe_callB call_len (by rfl) B.len PySem.boot_len (pa_cons (pv 1) pa_nil)) (nomark _)) (pss_one (ps_ret pe_bl)) pss_nil)
       (pss_cons (ps_for (PassesOwn.never) rfl (pi_range1 (by rfl) B.range (pa_cons (pe_callB call_len (by rfl) B.len PySem.boot_len (pa_cons (pv 1) pa_nil)) pa_nil)) (pg_name (i := 2) scSame.nd rfl (.inl rfl))
        (pss_one (ps_if (pt_not (pt_val (pe_call G_same hr (by rfl) g_same F_same.kp b_same .nil pass0 (pa_cons (pe_ix (ix_list.or ix_tup) (pv 0) (pv 2) (fun _ _ => rfl)) (pa_cons (pe_ix (ix_list.or ix_tup) (pv 1) (pv 2) (fun _ _ => rfl)) pa_nil)))))
         (pss_one (ps_ret pe_bl))
         pss_nil)))
       (pss_one (ps_ret pe_bl)))) pss_nil)
      (pss_one ps_never)))))))), ?_⟩
    rcases hv with ⟨rfl, hv⟩ | ⟨a, b, xs, ys, rfl, rfl, ⟨ha, hb⟩ | ⟨ha, hb⟩, hle, hx, hall⟩
    · rcases hv with ⟨z, rfl⟩ | ⟨i, rfl⟩
      · refine ⟨.str z, rfl, rfl, _, rfl, iteF ?_⟩
        refine ⟨.str z, rfl, .str z, .ty "bool", .type "str", .type "bool", false, rfl, .ty "bool", ty_txt, kit_ty (by decide +kernel), _, rfl, iteF ?_⟩
        refine ⟨.str z, rfl, .str z, .ty "int", .type "str", .type "int", false, rfl, .ty "int", ty_txt, kit_ty (by decide +kernel), _, rfl, iteF ?_⟩
        refine ⟨.str z, rfl, .str z, .ty "str", .type "str", .type "str", true, rfl, .ty "str", ty_txt, kit_ty (by decide +kernel), _, rfl, iteT ?_⟩
        refine ⟨.str z, rfl, .str z, .ty "str", .type "str", .type "str", true, rfl, .ty "str", ty_txt, kit_ty (by decide +kernel), _, rfl, iteT ?_⟩
        refine ⟨.str z, rfl, .str z, rfl, rfl, ?_⟩
        rw [decide_eq_true rfl]; exact q
      · refine ⟨.int i, rfl, rfl, _, rfl, iteF ?_⟩
        refine ⟨.int i, rfl, .int i, .ty "bool", .type "int", .type "bool", false, rfl, .ty "bool", .base (.int i), kit_ty (by decide +kernel), _, rfl, iteF ?_⟩
        refine ⟨.int i, rfl, .int i, .ty "int", .type "int", .type "int", true, rfl, .ty "int", .base (.int i), kit_ty (by decide +kernel), _, rfl, iteT ?_⟩
        refine ⟨.int i, rfl, .int i, .ty "int", .type "int", .type "int", true, rfl, .ty "int", .base (.int i), kit_ty (by decide +kernel), _, rfl, iteT ?_⟩
        refine ⟨.int i, rfl, .int i, .ty "bool", .type "int", .type "bool", false, rfl, .ty "bool", .base (.int i), kit_ty (by decide +kernel), _, rfl, _, rfl, iteT ?_⟩
        refine ⟨.int i, rfl, .int i, rfl, rfl, ?_⟩
        rw [decide_eq_true rfl]; exact q
    ·
      refine ⟨.ref b, rfl, rfl, _, rfl, iteF ?_⟩
      refine ⟨.ref b, rfl, .ref b, .ty "bool", .type "list", .type "bool", false, rfl, .ty "bool", ty_lst hb, kit_ty (by decide +kernel), _, rfl, iteF ?_⟩
      refine ⟨.ref b, rfl, .ref b, .ty "int", .type "list", .type "int", false, rfl, .ty "int", ty_lst hb, kit_ty (by decide +kernel), _, rfl, iteF ?_⟩
      refine ⟨.ref b, rfl, .ref b, .ty "str", .type "list", .type "str", false, rfl, .ty "str", ty_lst hb, kit_ty (by decide +kernel), _, rfl, iteF ?_⟩
      refine ⟨.ref b, rfl, .ref b, .ty "tuple", .type "list", .type "tuple", false, rfl, .ty "tuple", ty_lst hb, kit_ty (by decide +kernel), _, rfl, iteF ?_⟩
      refine ⟨.ref b, rfl, .ref b, .ty "list", .type "list", .type "list", true, rfl, .ty "list", ty_lst hb, kit_ty (by decide +kernel), _, rfl, iteT ?_⟩
      refine ⟨.ref a, rfl, .ref a, .ty "list", .type "list", .type "list", true, rfl, .ty "list", ty_lst ha, kit_ty (by decide +kernel), _, rfl, iteF ?_⟩
      refine ⟨.ref b, rfl, .ref b, .ty "tuple", .type "list", .type "tuple", false, rfl, .ty "tuple", ty_lst hb, kit_ty (by decide +kernel), _, rfl, iteF ?_⟩
      refine ⟨.ref b, rfl, .ref b, .ty "list", .type "list", .type "list", true, rfl, .ty "list", ty_lst hb, kit_ty (by decide +kernel), _, rfl, iteT ?_⟩
      refine ⟨.ref a, rfl, .ref a, xs.length, rfl, .inl ⟨_, SqL.of ha, rfl⟩, .ref b, rfl, .ref b, ys.length, rfl, .inl ⟨_, SqL.of hb, rfl⟩, rfl, _, rfl, ?_⟩
      rw [hle, decide_eq_true rfl]
      refine iteF ⟨.ref b, rfl, .ref b, ys.length, rfl, .inl ⟨_, SqL.of hb, rfl⟩, (ys.length : Int), rfl, by omega, by omega, ?_⟩
      rw [Int.toNat_natCast]
      refine for_range (lo := 0) (n := ys.length) (fun n σ H' => ∃ y, σ = [some (.ref a), some (.ref b), y] ∧ H' = H) ⟨none, rfl, rfl⟩ ?_ ?_
      · rintro k σ H' hk ⟨y, rfl, rfl⟩
        have e0 : (0 : Int) + (k : Int) = (k : Int) := by omega
        rw [e0]
        have g1 : xs[k]? = some (xs[k]'(by omega)) := by simp
        have g2 : ys[k]? = some (ys[k]'hk) := by simp
        refine ⟨.ref a, rfl, .int (k : Int), rfl, .inl ⟨a, xs, (k : Int), _, rfl, rfl, SqL.of ha, atI_nat g1, .ref b, rfl, .int (k : Int), rfl, .inl ⟨b, ys, (k : Int), _, rfl, rfl, SqL.of hb, atI_nat g2, ?_⟩⟩⟩
        exact ⟨_, _, rfl, hall k _ _ g1 g2, true, rfl, iteF ⟨_, rfl, rfl⟩⟩
      · rintro σ H' ⟨y, rfl, rfl⟩
        exact q
    ·
      refine ⟨.ref b, rfl, rfl, _, rfl, iteF ?_⟩
      refine ⟨.ref b, rfl, .ref b, .ty "bool", .type "tuple", .type "bool", false, rfl, .ty "bool", ty_tup hb, kit_ty (by decide +kernel), _, rfl, iteF ?_⟩
      refine ⟨.ref b, rfl, .ref b, .ty "int", .type "tuple", .type "int", false, rfl, .ty "int", ty_tup hb, kit_ty (by decide +kernel), _, rfl, iteF ?_⟩
      refine ⟨.ref b, rfl, .ref b, .ty "str", .type "tuple", .type "str", false, rfl, .ty "str", ty_tup hb, kit_ty (by decide +kernel), _, rfl, iteF ?_⟩
      refine ⟨.ref b, rfl, .ref b, .ty "tuple", .type "tuple", .type "tuple", true, rfl, .ty "tuple", ty_tup hb, kit_ty (by decide +kernel), _, rfl, iteT ?_⟩
      refine ⟨.ref a, rfl, .ref a, .ty "tuple", .type "tuple", .type "tuple", true, rfl, .ty "tuple", ty_tup ha, kit_ty (by decide +kernel), _, rfl, iteF ?_⟩
      refine ⟨.ref b, rfl, .ref b, .ty "list", .type "tuple", .type "list", false, rfl, .ty "list", ty_tup hb, kit_ty (by decide +kernel), _, rfl, iteF ?_⟩
      refine ⟨.ref b, rfl, .ref b, .ty "tuple", .type "tuple", .type "tuple", true, rfl, .ty "tuple", ty_tup hb, kit_ty (by decide +kernel), _, rfl, iteT ?_⟩
      refine ⟨.ref a, rfl, .ref a, xs.length, rfl, .inr ⟨_, SqT.of ha, rfl⟩, .ref b, rfl, .ref b, ys.length, rfl, .inr ⟨_, SqT.of hb, rfl⟩, rfl, _, rfl, ?_⟩
      rw [hle, decide_eq_true rfl]
      refine iteF ⟨.ref b, rfl, .ref b, ys.length, rfl, .inr ⟨_, SqT.of hb, rfl⟩, (ys.length : Int), rfl, by omega, by omega, ?_⟩
      rw [Int.toNat_natCast]
      refine for_range (lo := 0) (n := ys.length) (fun n σ H' => ∃ y, σ = [some (.ref a), some (.ref b), y] ∧ H' = H) ⟨none, rfl, rfl⟩ ?_ ?_
      · rintro k σ H' hk ⟨y, rfl, rfl⟩
        have e0 : (0 : Int) + (k : Int) = (k : Int) := by omega
        rw [e0]
        have g1 : xs[k]? = some (xs[k]'(by omega)) := by simp
        have g2 : ys[k]? = some (ys[k]'hk) := by simp
        refine ⟨.ref a, rfl, .int (k : Int), rfl, .inr ⟨a, xs, (k : Int), _, rfl, rfl, SqT.of ha, atI_nat g1, .ref b, rfl, .int (k : Int), rfl, .inr ⟨b, ys, (k : Int), _, rfl, rfl, SqT.of hb, atI_nat g2, ?_⟩⟩⟩
        exact ⟨_, _, rfl, hall k _ _ g1 g2, true, rfl, iteF ⟨_, rfl, rfl⟩⟩
      · rintro σ H' ⟨y, rfl, rfl⟩
        exact q
theorem ok_same {f_same : Addr} {fd_same : FuncData} (B : Blt mg) (F_same : Fun K "_law_same" "_law_same" sSame f_same fd_same) (b_same : Binds K fd_same ["_law_one", "_law_two"] []) (g_same : mg "_law_same" = some (.ref f_same)) : FnOk P w K mg base CX0 3 f_same fd_same ["_law_one", "_law_two"] (spSame 2) := by
  have G0 : FnOk P w K mg base CX0 1 f_same fd_same ["_law_one", "_law_two"] (spSame 0) := (ok_leaf B F_same).imp fun vs H Q E h => by
    obtain ⟨x, y, rfl, ⟨rfl, hl⟩, q⟩ := h
    exact ⟨x, rfl, hl, q⟩
  exact ok_same1 B F_same b_same g_same (ok_same1 B F_same b_same g_same G0)
end
end K28

set_option maxRecDepth 100000
set_option maxHeartbeats 8000000
namespace K28
open PySem PySem.Spec PyProof.Rows L2 RJ
theorem made_up {H : Hp} {x dx C : Addr} (nx : H x = none) (ndx : H dx = none) : Same H (upd (upd H dx (.own x)) x (.ins C dx [])) := fun b o hb => by
  rw [upd_ne (fun e => by subst e; rw [nx] at hb; cases hb), upd_ne (fun e => by subst e; rw [ndx] at hb; cases hb)]; exact hb
theorem made_same {H H' : Hp} {x dx C : Addr} (nx : H x = none) (ndx : H dx = none) (hk : ∀ b o, b ≠ x → (upd (upd H dx (.own x)) x (.ins C dx [])) b = some o → H' b = some o) : Same H H' := fun b o hb =>
  hk b o (fun e => by subst e; rw [nx] at hb; cases hb) (made_up nx ndx b o hb)
/-- what the errors' classes must say -/
structure Errs (K : PySem.W.Frag) (mg : Str → Option Value) (CT CJ CL : Addr) : Prop where
  gL : mg "LaidError" = some (.ref CL)
  exT : ExcC K CT
  exJ : ExcC K CJ
  tt : PySem.W.exmOne K (.ref CT) (.ref CT) = some true
  jt : PySem.W.exmOne K (.ref CJ) (.ref CT) = some false
  jj : PySem.W.exmOne K (.ref CJ) (.ref CJ) = some true
  tL : PySem.W.exmOne K (.ref CT) (.ref CL) = some true
  jL : PySem.W.exmOne K (.ref CJ) (.ref CL) = some true
  kTJ : PySem.W.kitOne K (.ref CT) (.ref CJ) = some false
  kTV : PySem.W.kitOne K (.ref CT) (.type "ValueError") = some true
  kJV : PySem.W.kitOne K (.ref CJ) (.type "ValueError") = some true
theorem call_isD2 {X : Cx} {a D1 D2 : Addr} {oe : Obj} {cls : Value} {d : Option Addr} {pn : List (Addr × Obj)} (C1 : ExcC X.K D1) (C2 : ExcC X.K D2) (hz : Zc cls d oe) (hf : ∃ vs, oe.data = .fields vs) :
    CallR (X.suite a ((a, oe) :: pn)) (.builtin "isinstance") (fun xs H Q => rIsD X.K D1 a cls d xs H Q ∨ rIsD X.K D2 a cls d xs H Q) := by
  intro pins s σ H xs us Q I r h
  rcases h with h | h
  · exact call_isD C1 hz hf pins s σ H xs us Q I r h
  · exact call_isD C2 hz hf pins s σ H xs us Q I r h
section
variable {P : Program} {w : World} {K : PySem.W.Frag} {mg : Str → Option Value} {base : Heap} {t1 t2 t3 t4 t5 : Tok}
abbrev JI (P : Program) (w : World) (K : PySem.W.Frag) (mg : Str → Option Value) (base : Heap) (f C CT CJ : Addr) (fd : FuncData) : Prop := FnOk P w K mg base (L2.CX P w) 4 f fd ["self", "lines"] (spJInit C CT CJ)
/-! ### _law_made -/
def spMade : Sp := fun vs H Q _ => ∃ (a : Addr) (zs : List Str), vs = [.ref a] ∧ H a = some (.lst (zs.map V.str)) ∧ zs.length ≤ 100 ∧ (∀ z ∈ zs, z.length ≤ 100) ∧
  (8 < zs.length → ∀ H' t, Same H H' → H' t = some (.tup [.str (Str.ofString "large"), .int (zs.length : Nat)]) → Q (.ref t) H') ∧
  (zs.length ≤ 8 → ∀ z, badOf zs = some z → ∀ H' t, Same H H' → H' t = some (.tup [.str (Str.ofString "bad"), .str z]) → Q (.ref t) H') ∧
  (zs.length ≤ 8 → badOf zs = none → ∀ H' t l1 l2, Same H H' → H' t = some (.tup [.str (Str.ofString "made"), .int (zs.length : Nat), .ref l1, .ref l2]) → H' l1 = some (.lst (zs.map V.str)) → H' l2 = some (.lst (zs.map V.str)) → Q (.ref t) H')
abbrev nMd : List Str := ["_law_lines", "_law_joints", "e", "_law_line_here"]
theorem scMade : FnScope nMd ["_law_lines"] (defScope sMade) := ⟨rfl, rfl, rfl, by decide +kernel, rfl, by decide +kernel, by decide +kernel⟩
theorem ok_made {f C CT CJ CL fT fI f_jinit f_len f_iter : Addr} {fd fdT fdI fd_jinit fd_len fd_iter : FuncData} (B : Blt mg) (T : Txt K mg C) (M : Mk K C f_jinit) (NT : TooL K mg CT fT fdT) (N : BadJ K mg CJ fI fdI) (R : Errs K mg CT CJ CL) (F : Fun K "_law_made" "_law_made" sMade f fd)
    (G_jinit : JI P w K mg base f_jinit C CT CJ fd_jinit) (b_jinit : Binds K fd_jinit ["self", "lines"] [])
    (F_len : Fun K "__len__" "Joints.__len__" sLen f_len fd_len) (b_len : Binds K fd_len ["self"] []) (m_len : PySem.W.findIn K (.ref C) "__len__" = some (some (.ref f_len)) ∧ PySem.W.typeIn K (.ref f_len) = some (.type "function"))
    (F_iter : Fun K "__iter__" "Joints.__iter__" sIter f_iter fd_iter) (b_iter : Binds K fd_iter ["self"] []) (m_iter : PySem.W.findIn K (.ref C) "__iter__" = some (some (.ref f_iter)) ∧ PySem.W.isFn K (.ref f_iter) = true) :
    FnOk P w K mg base CX0 6 f fd ["_law_lines"] spMade := by
  have G_len : FnOk P w K mg base CX0 1 f_len fd_len ["self"] (spLen C) := ok_len B T F_len
  have G_iter : RO.FnN P w K mg base CX0 1 f_iter fd_iter ["self"] (RO.spIt C "_lines") := ok_iter B T F_iter
  have xT : XfC K CT := ⟨R.exT.hg, R.exT.hk, R.exT.hs, R.exT.hd⟩
  have xJ : XfC K CJ := ⟨R.exJ.hg, R.exJ.hk, R.exJ.hs, R.exJ.hd⟩
  refine F.ok scMade (fun vs H Q E h => ?_) (fun cdv A0 outer s H vs Q E hr h => ?_)
  · obtain ⟨a, zs, rfl, _⟩ := h; rfl
  · obtain ⟨a, zs, rfl, ha, hl, hz, q1, q2, q3⟩ := h
    have hr1 : Room 1 _ := hr.mono (by decide)
    have hr2 : Room 2 _ := hr.mono (by decide)
    have hr4 : Room 4 _ := hr.mono (by decide)
    refine ⟨_, pss_cons (RT.ps_try_asM (i := 2) (W0 := fun _ _ _ _ => False) rfl rfl scMade.nd rfl rfl takes0
        (fun W pn xe tk _ => pss_one (ps_set (i := 1) scMade.nd rfl (.inl rfl) (R6.pe_makeS M G_jinit hr (by rfl) T.mgC b_jinit .nil (fun σ => passAt tk σ) (pa_cons (pv 0) pa_nil))))
        (.cons ⟨rfl, by decide, .inl NT.gC⟩ (fun a oe cls d pn hz hf => pss_cons (ps_if (pt_val (pe_callB (call_isD R.exT hz hf) (by rfl) B.isi (by decide +kernel) (pa_cons (pv 2) (pa_cons (pe_glob (v := .ref CJ) (by rfl) N.gC rfl) pa_nil)))) (pss_one (ps_ret (pe_tup (pa_cons pe_str pa_nil)))) pss_nil)
            (pss_one (ps_ret (pe_tup (pa_cons pe_str (pa_cons (pe_xf xT NT.fp hz hf (pv 2)) pa_nil))))))
          (.cons ⟨rfl, by decide, .inl N.gC⟩ (fun a oe cls d pn hz hf => pss_one (ps_ret (pe_tup (pa_cons pe_str (pa_cons (pe_xf xJ N.fp hz hf (pv 2)) pa_nil))))) .nil)))
      (pss_one (ps_ret (pe_tup (pa_cons pe_str (pa_cons (pe_callB (RO.call_lenOwn m_len.1 m_len.2 G_len b_len hr2) (by rfl) B.len PySem.boot_len (pa_cons (pv 1) pa_nil)) (pa_cons (pe_callTy (RO.call_listOwnL ⟨m_iter.1, m_iter.2, G_iter, b_iter⟩ ⟨m_len.1, m_len.2, G_len, b_len⟩ rfl hr4) (by rfl) B.list (by decide +kernel) (pa_cons (pv 1) pa_nil))
        (pa_cons (pe_lc (own := [("_law_line_here", 3)]) (g := gName 3) (tt := tYes) rfl scMade.nd (RO.pi_ownL ⟨m_iter.1, m_iter.2, G_iter, b_iter⟩ hr1 (pv 1)) (blkOk_by (N := nMd) (sc := defScope sMade) (by decide +kernel)) (fun _ _ _ _ _ => (pg_name (i := 3) scMade.nd rfl (.inl rfl))) (fun _ _ _ _ _ => pts_nil) (fun _ _ _ _ _ => (pv 3))) pa_nil))))))), ?_⟩
    refine ⟨.ref a, rfl, fun p dx np ndx hne => ?_⟩
    have sM : Same H (upd (upd H dx (.own p)) p (.ins C dx [])) := made_up np ndx
    refine ⟨p, dx, a, zs, rfl, upd_same, sM _ _ ha, hl, hz, fun h8 d hd => ?_, fun h8 z hb H1 d hk hd => ?_, fun h8 hb H1 l1 hk nl1 hJ => ⟨rfl, ?_⟩⟩
    · have sd := sM.trans (same_new hd (o := .xd [("many", .int (zs.length : Nat))]))
      refine ⟨true, R.tt, fun _ e he => ?_, fun q => nomatch q⟩
      refine ⟨.ref e, rfl, .ref CJ, .ref CJ, false, d, _, rfl, rfl, fun u hu => hu, R.kTJ, rfl, upd_same, _, rfl, iteF ?_⟩
      refine ⟨.ref e, rfl, rfl, rfl, d, _, .int (zs.length : Nat), rfl, upd_same, rfl, by show 2 ≤ sizeLine; decide, fun t nt => ?_⟩
      exact q1 h8 _ t (sd.trans (same_new nt)) upd_same
    · have s1 : Same H H1 := made_same np ndx hk
      have sd := s1.trans (same_new hd (o := .xd [("text", .str z)]))
      refine ⟨false, R.jt, (fun q => nomatch q), fun _ => ⟨true, R.jj, fun _ e he => ?_, fun q => nomatch q⟩⟩
      refine ⟨.ref e, rfl, rfl, rfl, d, _, .str z, rfl, upd_same, rfl, by show 2 ≤ sizeLine; decide, fun t nt => ?_⟩
      exact q2 h8 z hb _ t (sd.trans (same_new nt)) upd_same
    · have s1 : Same H H1 := made_same np ndx hk
      obtain ⟨dy, fs, hp, hf, hl1⟩ := id hJ
      have hll : (zs.map V.str).length = zs.length := List.length_map _
      refine ⟨.ref p, rfl, p, dy, fs, zs.length, rfl, hp, Nat.le_trans (show zs.length ≤ 1000 by omega) (by decide), ⟨p, l1, zs, rfl, hJ, by omega, rfl, rfl⟩, ?_⟩
      refine ⟨.ref p, rfl, p, dy, l1, fs, zs.map V.str, zs.length, rfl, hp, hf, hl1, by rw [hll]; omega, Nat.le_trans (show zs.length ≤ 1000 by omega) (by decide), fun H2 s2 => ⟨p, l1, zs, rfl, hJ.same s2, by omega, rfl, rfl⟩, fun r nr => ?_⟩
      have sr := same_new nr (o := .lst (zs.map V.str))
      have hr0 : (upd H1 r (.lst (zs.map V.str))) r = some (.lst (zs.map V.str)) := upd_same
      generalize upd H1 r (.lst (zs.map V.str)) = H2 at sr hr0 ⊢
      refine ⟨.ref p, rfl, p, dy, l1, fs, zs.map V.str, rfl, sr _ _ hp, hf, sr _ _ hl1, fun D nD => ?_⟩
      refine lc_list (K := K) (a := l1) (xs := zs.map V.str) (fun i H' => H' D = some (.lst ((zs.take i).map V.str)) ∧ Same H2 H') ⟨upd_same, same_new nD⟩ (fun i H' _ ⟨_, s⟩ => SqL.of (s _ _ (sr _ _ hl1))) ?_ ?_
      · rintro i v H' hi ⟨hD, sm⟩
        rw [List.getElem?_map] at hi
        cases en : zs[i]? with
        | none => rw [en] at hi; cases hi
        | some z =>
        rw [en] at hi; cases hi
        have hilt := (List.getElem?_eq_some_iff.mp en).1
        refine ⟨rfl, .str z, rfl, _, hD, small1000 (by rw [List.length_map, List.length_take]; omega), ?_, same_at sm nD⟩
        rw [upd_same, List.take_add_one, en, map_snocS]; rfl
      · rintro H3 ⟨hD, s3⟩
        rw [hll, List.take_length] at hD
        refine ⟨by show 4 ≤ sizeLine; decide, fun t nt => ?_⟩
        exact q3 h8 hb _ t r D (s1.trans (sr.trans (s3.trans (same_new nt)))) upd_same ((same_new nt) _ _ (s3 _ _ hr0)) ((same_new nt) _ _ hD)
/-! ### _law_refused -/
def spRefused : Sp := fun vs H Q _ => ∃ (a : Addr) (zs : List Str), vs = [.ref a] ∧ H a = some (.lst (zs.map V.str)) ∧ zs.length ≤ 100 ∧ (∀ z ∈ zs, z.length ≤ 100) ∧ (8 < zs.length ∨ ∃ z, badOf zs = some z) ∧ ∀ H', Same H H' → Q (.bl true) H'
theorem scRefused : FnScope ["_law_lines", "e"] ["_law_lines"] (defScope sRefused) := ⟨rfl, rfl, rfl, by decide +kernel, rfl, by decide +kernel, by decide +kernel⟩
theorem ok_refused {f C CT CJ CL f_jinit : Addr} {fd fd_jinit : FuncData} (B : Blt mg) (T : Txt K mg C) (M : Mk K C f_jinit) (R : Errs K mg CT CJ CL) (F : Fun K "_law_refused" "_law_refused" sRefused f fd)
    (G_jinit : JI P w K mg base f_jinit C CT CJ fd_jinit) (b_jinit : Binds K fd_jinit ["self", "lines"] []) :
    FnOk P w K mg base CX0 6 f fd ["_law_lines"] spRefused := by
  refine F.ok scRefused (fun vs H Q E h => ?_) (fun cdv A0 outer s H vs Q E hr h => ?_)
  · obtain ⟨a, zs, rfl, _⟩ := h; rfl
  · obtain ⟨a, zs, rfl, ha, hl, hz, hbad, q⟩ := h
    refine ⟨_, pss_cons (ps_try_as (i := 1) (Wout := fun _ _ _ _ => False) (ts := fun a cls d => _) rfl rfl scRefused.nd rfl rfl ⟨rfl, by decide, .inl R.gL⟩ takes0
        (fun W pn xe tk _ => pss_one (ps_expr (R6.pe_makeS M G_jinit hr (by rfl) T.mgC b_jinit .nil (fun σ => passAt tk σ) (pa_cons (pv 0) pa_nil))))
        (fun a oe cls d pn hz hf => pss_one (ps_ret (pe_callB (call_isD2 R.exT R.exJ hz hf) (by rfl) B.isi (by decide +kernel) (pa_cons (pv 1) (pa_cons (pe_bltn (v := .ty "ValueError") (by rfl) B.ve (by decide +kernel) rfl) pa_nil))))))
      (pss_one (ps_ret pe_bl)), ?_⟩
    refine ⟨.ref a, rfl, fun p dx np ndx hne => ?_⟩
    have sM : Same H (upd (upd H dx (.own p)) p (.ins C dx [])) := made_up np ndx
    refine ⟨p, dx, a, zs, rfl, upd_same, sM _ _ ha, hl, hz, fun h8 d hd => ?_, fun h8 z hb H1 d hk hd => ?_, fun h8 hb H1 l1 hk nl1 hJ => ?_⟩
    · have sd := sM.trans (same_new hd (o := .xd [("many", .int (zs.length : Nat))]))
      refine ⟨true, R.tL, fun _ e he => ?_, fun q => nomatch q⟩
      exact ⟨.ref e, rfl, .inl ⟨.ty "ValueError", .type "ValueError", true, d, _, rfl, rfl, fun u hu => hu, R.kTV, rfl, upd_same, q _ sd⟩⟩
    · have s1 : Same H H1 := made_same np ndx hk
      have sd := s1.trans (same_new hd (o := .xd [("text", .str z)]))
      refine ⟨true, R.jL, fun _ e he => ?_, fun q => nomatch q⟩
      exact ⟨.ref e, rfl, .inr ⟨.ty "ValueError", .type "ValueError", true, d, _, rfl, rfl, fun u hu => hu, R.kJV, rfl, upd_same, q _ sd⟩⟩
    · rcases hbad with h | ⟨z, h⟩
      · omega
      · rw [hb] at h; cases h
end
end K28

set_option maxRecDepth 100000
set_option maxHeartbeats 16000000
namespace K28
open PySem PySem.Spec PyProof.Rows L2 RJ
theorem passN {X : Cx} : Passes (L2.CX X.prog X.w) X E0 := fun _ _ _ _ _ _ _ h => by
  unfold L2.CX at h
  obtain ⟨a, B, H', cls, d, h1, h2, h3, h4, h⟩ := h
  simp only [E0, and_false] at h
theorem cutV_take (xs : List V) (n : Nat) : cutV xs none (some (n : Int)) = xs.take n := by
  unfold cutV
  rw [HT.sIx_none, HT.sIx_nat, List.drop_zero, Nat.sub_zero]
  by_cases h : n ≤ xs.length
  · rw [Nat.min_eq_left h]
  · rw [Nat.min_eq_right (by omega), List.take_length, List.take_of_length_le (by omega)]
theorem cutV_drop (xs : List V) (n : Nat) : cutV xs (some (n : Int)) none = xs.drop n := by
  unfold cutV
  rw [HT.sIx_none, HT.sIx_nat]
  by_cases h : n ≤ xs.length
  · rw [Nat.min_eq_left h, List.take_of_length_le (by rw [List.length_drop]; exact Nat.le_refl _)]
  · rw [Nat.min_eq_right (by omega), List.drop_length, List.drop_eq_nil_of_le (by omega)]; simp
def gd (z : Str) : Bool := rdB (tl z)
theorem badOf_none {zs : List Str} (h : ∀ z ∈ zs, gd z = true) : badOf zs = none := by
  induction zs with
  | nil => rfl
  | cons z zs ih =>
    unfold badOf
    have h0 : rdB (tl z) = true := h z List.mem_cons_self
    rw [if_pos h0]
    exact ih fun y hy => h y (List.mem_cons_of_mem _ hy)
theorem badOf_head (zs : List Str) : badOf zs = (zs.filter fun z => !gd z)[0]? := by
  induction zs with
  | nil => rfl
  | cons z zs ih =>
    unfold badOf
    cases h : rdB (tl z) with
    | true => rw [if_pos rfl, List.filter_cons_of_neg (by show ¬ (!rdB (tl z)) = true; rw [h]; decide)]; exact ih
    | false => rw [if_neg Bool.false_ne_true, List.filter_cons_of_pos (by show (!rdB (tl z)) = true; rw [h]; rfl)]; rfl
/-- what comes of the lines -/
def MadeAt (H : Hp) (t : Addr) (zs : List Str) : Prop :=
  (8 < zs.length ∧ H t = some (.tup [.str (Str.ofString "large"), .int (zs.length : Nat)])) ∨ (zs.length ≤ 8 ∧ ∃ z, badOf zs = some z ∧ H t = some (.tup [.str (Str.ofString "bad"), .str z])) ∨
  (zs.length ≤ 8 ∧ badOf zs = none ∧ ∃ l1 l2, H t = some (.tup [.str (Str.ofString "made"), .int (zs.length : Nat), .ref l1, .ref l2]) ∧ H l1 = some (.lst (zs.map V.str)) ∧ H l2 = some (.lst (zs.map V.str)))
theorem MadeAt.same {H H' : Hp} {t : Addr} {zs : List Str} (h : MadeAt H t zs) (s : Same H H') : MadeAt H' t zs := by
  rcases h with ⟨a, b⟩ | ⟨a, z, b, c⟩ | ⟨a, b, l1, l2, c, d, e⟩
  · exact .inl ⟨a, s _ _ b⟩
  · exact .inr (.inl ⟨a, z, b, s _ _ c⟩)
  · exact .inr (.inr ⟨a, b, l1, l2, s _ _ c, s _ _ d, s _ _ e⟩)
theorem same_list1 {H : Hp} {a b : Addr} {zs : List Str} (n : Nat) (hl : zs.length ≤ 1000) (ha : H a = some (.lst (zs.map V.str))) (hb : H b = some (.lst (zs.map V.str))) : SameV (n + 1) H (.ref a) (.ref b) := by
  refine .inr ⟨a, b, _, _, rfl, rfl, .inl ⟨ha, hb⟩, rfl, by rw [List.length_map]; exact hl, fun i u v e1 e2 => ?_⟩
  rw [e1] at e2; cases e2
  rw [List.getElem?_map] at e1
  cases en : zs[i]? with
  | none => rw [en] at e1; cases e1
  | some z =>
    rw [en] at e1; cases e1
    cases n with
    | zero => exact ⟨rfl, .inl ⟨z, rfl⟩⟩
    | succ n => exact .inl ⟨rfl, .inl ⟨z, rfl⟩⟩
theorem same_made {H : Hp} {t t' : Addr} {zs : List Str} (hl : zs.length ≤ 1000) (h : MadeAt H t zs) (h' : MadeAt H t' zs) : SameV 2 H (.ref t) (.ref t') := by
  have leafS : ∀ z, SameV 1 H (.str z) (.str z) := fun z => .inl ⟨rfl, .inl ⟨z, rfl⟩⟩
  have leafI : ∀ i, SameV 1 H (.int i) (.int i) := fun i => .inl ⟨rfl, .inr ⟨i, rfl⟩⟩
  rcases h with ⟨a, b⟩ | ⟨a, z, b, c⟩ | ⟨a, b, l1, l2, c, d, e⟩ <;> rcases h' with ⟨a', b'⟩ | ⟨a', z', b', c'⟩ | ⟨a', b', l1', l2', c', d', e'⟩ <;> try omega
  · refine .inr ⟨t, t', _, _, rfl, rfl, .inr ⟨b, b'⟩, rfl, by show 2 ≤ 1000; decide, fun i u v e1 e2 => ?_⟩
    match i, e1, e2 with
    | 0, e1, e2 => cases e1; cases e2; exact leafS _
    | 1, e1, e2 => cases e1; cases e2; exact leafI _
    | i + 2, e1, e2 => simp at e1
  · rw [b] at b'; cases b'
    refine .inr ⟨t, t', _, _, rfl, rfl, .inr ⟨c, c'⟩, rfl, by show 2 ≤ 1000; decide, fun i u v e1 e2 => ?_⟩
    match i, e1, e2 with
    | 0, e1, e2 => cases e1; cases e2; exact leafS _
    | 1, e1, e2 => cases e1; cases e2; exact leafS _
    | i + 2, e1, e2 => simp at e1
  · rw [b] at b'; cases b'
  · rw [b] at b'; cases b'
  · refine .inr ⟨t, t', _, _, rfl, rfl, .inr ⟨c, c'⟩, rfl, by show 4 ≤ 1000; decide, fun i u v e1 e2 => ?_⟩
    match i, e1, e2 with
    | 0, e1, e2 => cases e1; cases e2; exact leafS _
    | 1, e1, e2 => cases e1; cases e2; exact leafI _
    | 2, e1, e2 => cases e1; cases e2; exact same_list1 0 hl d d'
    | 3, e1, e2 => cases e1; cases e2; exact same_list1 0 hl e e'
    | i + 4, e1, e2 => simp at e1
def spMade2 : Sp := fun vs H Q _ => ∃ (a : Addr) (zs : List Str), vs = [.ref a] ∧ H a = some (.lst (zs.map V.str)) ∧ zs.length ≤ 100 ∧ (∀ z ∈ zs, z.length ≤ 100) ∧ ∀ H' t, Same H H' → MadeAt H' t zs → Q (.ref t) H'
theorem made2 {vs : List V} {H : Hp} {Q : VK} {E : XK} (h : spMade2 vs H Q E) : spMade vs H Q E := by
  obtain ⟨a, zs, rfl, ha, hl, hz, q⟩ := h
  exact ⟨a, zs, rfl, ha, hl, hz, fun h8 H' t s ht => q H' t s (.inl ⟨h8, ht⟩), fun h8 z hb H' t s ht => q H' t s (.inr (.inl ⟨h8, z, hb, ht⟩)), fun h8 hb H' t l1 l2 s ht h1 h2 => q H' t s (.inr (.inr ⟨h8, hb, l1, l2, ht, h1, h2⟩))⟩
section
variable {P : Program} {w : World} {K : PySem.W.Frag} {mg : Str → Option Value} {base : Heap} {t1 t2 t3 t4 t5 : Tok}
def spLaw (K : PySem.W.Frag) : Sp := fun vs H Q _ => ∃ (a : Addr) (ns : List Int), vs = [.ref a] ∧ SqL K H a (ns.map V.int) ∧ ns.length ≤ 63 ∧ ∀ H', Q (.bl true) H'
abbrev nLaw : List Str := ["_law_script", "_law_letters_here", "_law_many", "_law_lines", "_law_k", "_law_more", "_law_bad", "_law_due", "_law_handed", "_law_good", "_law_joints", "_law_other", "_law_line_here"]
theorem scLaw : FnScope nLaw ["_law_script"] (defScope sLaw) := ⟨rfl, rfl, rfl, by decide +kernel, rfl, by decide +kernel, by decide +kernel⟩
theorem ok_law {C CT CJ CL fT fI f f_is_letter f_is_part f_read_joint f_cell f_row f_same f_letters f_joint f_written f_odd f_line f_lpart f_is_written f_made f_refused f_jinit f_len f_iter : Addr} {fdT fdI fd fd_is_letter fd_is_part fd_read_joint fd_cell fd_row fd_same fd_letters fd_joint fd_written fd_odd fd_line fd_lpart fd_is_written fd_made fd_refused fd_jinit fd_len fd_iter : FuncData}
    (B : Blt mg) (Z : Cst mg t1 t2 t3 t4 t5) (T : Txt K mg C) (M : Mk K C f_jinit) (NT : TooL K mg CT fT fdT) (N : BadJ K mg CJ fI fdI) (R : Errs K mg CT CJ CL) (F : Fun K "law" "law" sLaw f fd)
    (F_is_letter : Fun K "is_letter" "is_letter" sLetter f_is_letter fd_is_letter) (b_is_letter : Binds K fd_is_letter ["char"] []) (g_is_letter : mg "is_letter" = some (.ref f_is_letter))
    (F_is_part : Fun K "_is_part" "_is_part" sPart f_is_part fd_is_part) (b_is_part : Binds K fd_is_part ["text", "end"] []) (g_is_part : mg "_is_part" = some (.ref f_is_part))
    (F_read_joint : Fun K "_read_joint" "_read_joint" sRead f_read_joint fd_read_joint) (b_read_joint : Binds K fd_read_joint ["line"] []) (g_read_joint : mg "_read_joint" = some (.ref f_read_joint))
    (F_cell : Fun K "_law_cell" "_law_cell" sCell f_cell fd_cell) (b_cell : Binds K fd_cell ["_law_script", "_law_k"] []) (g_cell : mg "_law_cell" = some (.ref f_cell))
    (F_row : Fun K "_law_row" "_law_row" sRow f_row fd_row) (b_row : Binds K fd_row ["_law_cell_here", "_law_limits"] []) (g_row : mg "_law_row" = some (.ref f_row))
    (F_same : Fun K "_law_same" "_law_same" sSame f_same fd_same) (b_same : Binds K fd_same ["_law_one", "_law_two"] []) (g_same : mg "_law_same" = some (.ref f_same))
    (F_letters : Fun K "_law_letters" "_law_letters" sLetters f_letters fd_letters) (b_letters : Binds K fd_letters ["_law_cell_here"] []) (g_letters : mg "_law_letters" = some (.ref f_letters))
    (F_joint : Fun K "_law_joint" "_law_joint" sJoint f_joint fd_joint) (b_joint : Binds K fd_joint ["_law_cell_here", "_law_letters_here", "_law_share"] []) (g_joint : mg "_law_joint" = some (.ref f_joint))
    (F_written : Fun K "_law_written" "_law_written" sWritten f_written fd_written) (b_written : Binds K fd_written ["_law_row_here"] []) (g_written : mg "_law_written" = some (.ref f_written))
    (F_odd : Fun K "_law_odd" "_law_odd" sOdd f_odd fd_odd) (b_odd : Binds K fd_odd ["_law_pick"] []) (g_odd : mg "_law_odd" = some (.ref f_odd))
    (F_line : Fun K "_law_line" "_law_line" sLine f_line fd_line) (b_line : Binds K fd_line ["_law_cell_here", "_law_more", "_law_letters_here"] []) (g_line : mg "_law_line" = some (.ref f_line))
    (F_lpart : Fun K "_law_is_part" "_law_is_part" sLPart f_lpart fd_lpart) (b_lpart : Binds K fd_lpart ["_law_part", "_law_dot"] []) (g_lpart : mg "_law_is_part" = some (.ref f_lpart))
    (F_is_written : Fun K "_law_is_written" "_law_is_written" sLWritten f_is_written fd_is_written) (b_is_written : Binds K fd_is_written ["_law_text"] []) (g_is_written : mg "_law_is_written" = some (.ref f_is_written))
    (F_made : Fun K "_law_made" "_law_made" sMade f_made fd_made) (b_made : Binds K fd_made ["_law_lines"] []) (g_made : mg "_law_made" = some (.ref f_made))
    (F_refused : Fun K "_law_refused" "_law_refused" sRefused f_refused fd_refused) (b_refused : Binds K fd_refused ["_law_lines"] []) (g_refused : mg "_law_refused" = some (.ref f_refused))
    (F_jinit : Fun K "__init__" "Joints.__init__" sInit f_jinit fd_jinit) (b_jinit : Binds K fd_jinit ["self", "lines"] [])
    (F_len : Fun K "__len__" "Joints.__len__" sLen f_len fd_len) (b_len : Binds K fd_len ["self"] []) (m_len : PySem.W.findIn K (.ref C) "__len__" = some (some (.ref f_len)) ∧ PySem.W.typeIn K (.ref f_len) = some (.type "function"))
    (F_iter : Fun K "__iter__" "Joints.__iter__" sIter f_iter fd_iter) (b_iter : Binds K fd_iter ["self"] []) (m_iter : PySem.W.findIn K (.ref C) "__iter__" = some (some (.ref f_iter)) ∧ PySem.W.isFn K (.ref f_iter) = true) :
    FnOk P w K mg base CX0 8 f fd ["_law_script"] (spLaw K) := by
  have G_cell : FnOk P w K mg base CX0 1 f_cell fd_cell ["_law_script", "_law_k"] (spCell K) := ok_cell B F_cell
  have G_letters : FnOk P w K mg base CX0 2 f_letters fd_letters ["_law_cell_here"] spLetters := ok_letters B F_letters F_row b_row g_row
  have G_row : FnOk P w K mg base CX0 1 f_row fd_row ["_law_cell_here", "_law_limits"] (spRow K) := ok_row B F_row
  have G_line : FnOk P w K mg base CX0 3 f_line fd_line ["_law_cell_here", "_law_more", "_law_letters_here"] spLine := ok_line B F_line F_row b_row g_row F_joint b_joint g_joint F_written b_written g_written F_odd b_odd g_odd
  have G_is_written : FnOk P w K mg base CX0 2 f_is_written fd_is_written ["_law_text"] spLWr := ok_lwr B F_is_written F_lpart b_lpart g_lpart
  have G_same : FnOk P w K mg base CX0 3 f_same fd_same ["_law_one", "_law_two"] (spSame 2) := ok_same B F_same b_same g_same
  have G_jinit : FnOk P w K mg base (L2.CX P w) 4 f_jinit fd_jinit ["self", "lines"] (spJInit C CT CJ) := ok_jinit B Z T NT N F_jinit F_is_letter b_is_letter g_is_letter F_is_part b_is_part g_is_part F_read_joint b_read_joint g_read_joint
  have G_made : FnOk P w K mg base CX0 6 f_made fd_made ["_law_lines"] spMade2 := (ok_made B T M NT N R F_made G_jinit b_jinit F_len b_len m_len F_iter b_iter m_iter).imp fun vs H Q E h => made2 h
  have G_refused : FnOk P w K mg base CX0 6 f_refused fd_refused ["_law_lines"] spRefused := ok_refused B T M R F_refused G_jinit b_jinit
  have G_len : FnOk P w K mg base CX0 1 f_len fd_len ["self"] (spLen C) := ok_len B T F_len
  have G_iter : RO.FnN P w K mg base CX0 1 f_iter fd_iter ["self"] (RO.spIt C "_lines") := ok_iter B T F_iter
  refine F.ok scLaw (fun vs H Q E h => ?_) (fun cdv A0 outer s H vs Q E hr h => ?_)
  · obtain ⟨a, ns, rfl, _⟩ := h; rfl
  · obtain ⟨a, ns, rfl, hS, hlen, q⟩ := h
    have hr1 : Room 1 _ := hr.mono (by decide)
    have hr2 : Room 2 _ := hr.mono (by decide)
    have hr3 : Room 3 _ := hr.mono (by decide)
    have hr4 : Room 4 _ := hr.mono (by decide)
    have hr5 : Room 5 _ := hr.mono (by decide)
    have hr6 : Room 6 _ := hr.mono (by decide)
    refine ⟨_, (pss_cons (ps_set (i := 1) scLaw.nd rfl (.inl rfl) (pe_call G_letters hr2 (by rfl) g_letters F_letters.kp b_letters .nil pass0 (pa_cons (pe_call G_cell hr1 (by rfl) g_cell F_cell.kp b_cell .nil pass0 (pa_cons (pv 0) (pa_cons pe_int pa_nil))) pa_nil)))
      (pss_cons (ps_set (i := 2) scLaw.nd rfl (.inl rfl) (pe_ix ix_list (pe_call G_row hr1 (by rfl) g_row F_row.kp b_row .nil pass0 (pa_cons (pe_call G_cell hr1 (by rfl) g_cell F_cell.kp b_cell .nil pass0 (pa_cons (pv 0) (pa_cons pe_int pa_nil))) (pa_cons (pe_lst (pa_cons pe_int pa_nil)) pa_nil))) pe_int (fun _ _ => rfl)))
      (pss_cons (ps_set (i := 3) scLaw.nd rfl (.inl rfl) (pe_lst pa_nil))
      (pss_cons (ps_for (PassesOwn.never) rfl (pi_range1 (by rfl) B.range (pa_cons (pv 2) pa_nil)) (pg_name (i := 4) scLaw.nd rfl (.inl rfl))
      (pss_cons (ps_set (i := 5) scLaw.nd rfl (.inl rfl) (pe_op op_add (pe_call G_cell hr1 (by rfl) g_cell F_cell.kp b_cell .nil pass0 (pa_cons (pv 0) (pa_cons (pe_op op_add pe_int (pv 4)) pa_nil))) (pe_op op_mul pe_int (pv 4))))
       (pss_one (ps_expr (pe_bm PySem.F.plainAttrs_list PySem.F.slot_list_append PySem.F.type_list_append mt_append (pv 3) (pa_cons (pe_call G_line hr3 (by rfl) g_line F_line.kp b_line .nil pass0 (pa_cons (pe_op op_add (pe_call G_cell hr1 (by rfl) g_cell F_cell.kp b_cell .nil pass0 (pa_cons (pv 0) (pa_cons (pe_op op_add pe_int (pv 4)) pa_nil))) (pv 4)) (pa_cons (pv 5) (pa_cons (pv 1) pa_nil)))) pa_nil))))))
      (pss_cons (ps_setLc (i := 6) (own := [("_law_line_here", 12)]) (g := gName 12) rfl scLaw.nd rfl rfl (sw_true rfl rfl rfl (by decide +kernel)) (pi_list (pv 3)) (blkOk_by (N := nLaw) (sc := defScope sLaw) (by decide +kernel)) (fun _ _ _ _ _ => (pg_name (i := 12) scLaw.nd rfl (.inl rfl))) (fun _ _ _ _ _ => pts_one (pt_not (pt_val (pe_call G_is_written hr2 (by rfl) g_is_written F_is_written.kp b_is_written .nil pass0 (pa_cons (pv 12) pa_nil))))) (fun _ _ _ _ _ => (pv 12)))
      (pss_cons (ps_set (i := 7) scLaw.nd rfl (.inl rfl) (pe_tup (pa_cons pe_str (pa_cons (pv 2) (pa_cons (pe_callTy call_list_of (by rfl) B.list (by decide +kernel) (pa_cons (pv 3) pa_nil)) (pa_cons (pe_callTy call_list_of (by rfl) B.list (by decide +kernel) (pa_cons (pv 3) pa_nil)) pa_nil))))))
      (Evl.pss_cut (ps_if (pt_cmpR op_gt (pv 2) pe_int (nomark _))
      (pss_one (ps_set (i := 7) scLaw.nd rfl (.inl rfl) (pe_tup (pa_cons pe_str (pa_cons (pv 2) pa_nil)))))
      (pss_one (ps_if (pt_cmpR op_gt (pe_callB call_len (by rfl) B.len PySem.boot_len (pa_cons (pv 6) pa_nil)) pe_int (nomark _))
       (pss_one (ps_set (i := 7) scLaw.nd rfl (.inl rfl) (pe_tup (pa_cons pe_str (pa_cons (pe_ix ix_list (pv 6) pe_int (fun _ _ => rfl)) pa_nil)))))
       pss_nil)))
      (pss_cons (ps_set (i := 8) scLaw.nd rfl (.inl rfl) (pe_callTy call_list_of (by rfl) B.list (by decide +kernel) (pa_cons (pv 3) pa_nil)))
      (pss_cons (ps_if (PW.pt (pw_or (pt_not (pt_val (pe_call G_same hr3 (by rfl) g_same F_same.kp b_same .nil pass0 (pa_cons (pe_call G_made hr6 (by rfl) g_made F_made.kp b_made .nil pass0 (pa_cons (pv 8) pa_nil)) (pa_cons (pv 7) pa_nil))))) (pw_or1 (pt_not (pt_val (pe_call G_same hr3 (by rfl) g_same F_same.kp b_same .nil pass0 (pa_cons (pv 8) (pa_cons (pv 3) pa_nil))))))))
      (pss_one (ps_ret pe_bl))
      pss_nil)
      (Evl.pss_cut (ps_if (PW.pt (pw_and (pt_cmpR op_ne (pe_ix ix_tup (pv 7) pe_int (fun _ _ => rfl)) pe_str (nomark _)) (pw_and1 (pt_not (pt_val (pe_call G_refused hr6 (by rfl) g_refused F_refused.kp b_refused .nil pass0 (pa_cons (pe_callTy call_list_of (by rfl) B.list (by decide +kernel) (pa_cons (pv 3) pa_nil)) pa_nil)))))))
      (pss_one (ps_ret pe_bl))
      pss_nil)
      (pss_cons (ps_setLc (i := 9) (own := [("_law_line_here", 12)]) (g := gName 12) rfl scLaw.nd rfl rfl (sw_true rfl rfl rfl (by decide +kernel)) (pi_list (pv 3)) (blkOk_by (N := nLaw) (sc := defScope sLaw) (by decide +kernel)) (fun _ _ _ _ _ => (pg_name (i := 12) scLaw.nd rfl (.inl rfl))) (fun _ _ _ _ _ => pts_one (pt_val (pe_call G_is_written hr2 (by rfl) g_is_written F_is_written.kp b_is_written .nil pass0 (pa_cons (pv 12) pa_nil)))) (fun _ _ _ _ _ => (pv 12)))
      (pss_cons (ps_set (i := 9) scLaw.nd rfl (.inl rfl) (pe_slice sl_list (pv 9) po_none (po_some pe_int)))
      (pss_cons (ps_set (i := 8) scLaw.nd rfl (.inl rfl) (pe_callTy call_list_of (by rfl) B.list (by decide +kernel) (pa_cons (pv 9) pa_nil)))
      (pss_cons (ps_set (i := 10) scLaw.nd rfl (.inl rfl) (pe_make M G_jinit hr5 (by rfl) T.mgC b_jinit .nil passN (pa_cons (pv 8) pa_nil)))
      (pss_cons (ps_if (pt_not (pt_val (pe_call G_same hr3 (by rfl) g_same F_same.kp b_same .nil pass0 (pa_cons (pv 8) (pa_cons (pv 9) pa_nil)))))
      (pss_one (ps_ret pe_bl))
      pss_nil)
      (pss_cons (ps_expr (pe_bm PySem.F.plainAttrs_list PySem.F.slot_list_append PySem.F.type_list_append mt_append (pv 8) (pa_cons pe_str pa_nil)))
      (pss_cons (ps_asg pe_str (pg_sub (pv 8) pe_int set_list))
      (pss_cons (ps_if (pt_cmpR op_ne (pe_callB (RO.call_lenOwn m_len.1 m_len.2 G_len b_len hr2) (by rfl) B.len PySem.boot_len (pa_cons (pv 10) pa_nil)) (pe_callB call_len (by rfl) B.len PySem.boot_len (pa_cons (pv 9) pa_nil)) (nomark _))
      (pss_one (ps_ret pe_bl))
      pss_nil)
      (pss_cons (ps_if (pt_not (pt_val (pe_call G_same hr3 (by rfl) g_same F_same.kp b_same .nil pass0 (pa_cons (pe_callTy (RO.call_listOwnL ⟨m_iter.1, m_iter.2, G_iter, b_iter⟩ ⟨m_len.1, m_len.2, G_len, b_len⟩ rfl hr4) (by rfl) B.list (by decide +kernel) (pa_cons (pv 10) pa_nil)) (pa_cons (pv 9) pa_nil)))))
      (pss_one (ps_ret pe_bl))
      pss_nil)
      (pss_cons (ps_set (i := 11) scLaw.nd rfl (.inl rfl) (pe_make M G_jinit hr5 (by rfl) T.mgC b_jinit .nil passN (pa_cons (pe_callTy call_list_of (by rfl) B.list (by decide +kernel) (pa_cons (pe_slice sl_list (pv 9) (po_some pe_int) po_none) pa_nil)) pa_nil)))
      (pss_cons (ps_if (PW.pt (pw_or (pt_cmpR op_ne (pe_callB (RO.call_lenOwn m_len.1 m_len.2 G_len b_len hr2) (by rfl) B.len PySem.boot_len (pa_cons (pv 11) pa_nil)) (pe_callB call_len (by rfl) B.len PySem.boot_len (pa_cons (pe_slice sl_list (pv 9) (po_some pe_int) po_none) pa_nil)) (nomark _)) (pw_or1 (pt_not (pt_val (pe_call G_same hr3 (by rfl) g_same F_same.kp b_same .nil pass0 (pa_cons (pe_callTy (RO.call_listOwnL ⟨m_iter.1, m_iter.2, G_iter, b_iter⟩ ⟨m_len.1, m_len.2, G_len, b_len⟩ rfl hr4) (by rfl) B.list (by decide +kernel) (pa_cons (pv 11) pa_nil)) (pa_cons (pe_slice sl_list (pv 9) (po_some pe_int) po_none) pa_nil))))))))
      (pss_one (ps_ret pe_bl))
      pss_nil)
      (pss_one (ps_ret (pe_call G_same hr3 (by rfl) g_same F_same.kp b_same .nil pass0 (pa_cons (pe_callTy (RO.call_listOwnL ⟨m_iter.1, m_iter.2, G_iter, b_iter⟩ ⟨m_len.1, m_len.2, G_len, b_len⟩ rfl hr4) (by rfl) B.list (by decide +kernel) (pa_cons (pv 10) pa_nil)) (pa_cons (pv 9) pa_nil)))))))))))))))))))))))))), ?_⟩
    refine ⟨.ref a, rfl, a, ns, 0, rfl, hS, hlen, by decide, fun c0 => ⟨c0, rfl, fun H1 z s1 hz => ?_⟩⟩
    refine ⟨.ref a, rfl, a, ns, 1, rfl, s1.seq hS, hlen, by decide, fun c1 => ⟨by show 1 ≤ sizeLine; decide, fun l nl => ⟨c1, l, [11], rfl, SqL.of (by rw [upd_same]; rfl), by decide, by decide, fun H2 R0 rs s2 nR eR hrow => ?_⟩⟩⟩
    obtain ⟨g0, a0, g00, g01⟩ := hrow.2 0 11 rfl
    obtain ⟨m, rfl⟩ : ∃ k : Nat, g0 = (k : Int) := ⟨g0.toNat, by omega⟩
    have hm : m ≤ 10 := by omega
    have s02 : Same H H2 := s1.trans ((same_new nl).trans s2)
    refine ⟨R0, _, 0, .int (m : Int), rfl, rfl, SqL.of eR, atI_nat (j := 0) (at1 a0), ?_⟩
    refine ⟨by decide, fun L nL => ?_⟩
    have sL := same_new nL (o := .lst [])
    have hL0 : (upd H2 L (.lst [])) L = some (.lst (([] : List Str).map V.str)) := upd_same
    generalize upd H2 L (.lst []) = H3 at sL hL0 ⊢
    refine ⟨.int (m : Int), rfl, (m : Int), rfl, by omega, by omega, ?_⟩
    rw [Int.toNat_natCast]
    refine for_range (lo := 0) (n := m) (fun n σ H' => ∃ (y4 y5 : Option V) (zs : List Str), σ = [some (.ref a), some (.str z), some (.int (m : Int)), some (.ref L), y4, y5, none, none, none, none, none, none, none] ∧ Same H2 H' ∧ H' L = some (.lst (zs.map V.str)) ∧ zs.length = n ∧ ∀ y ∈ zs, y.length ≤ 20) ⟨none, none, [], rfl, sL, hL0, rfl, fun y h => absurd h List.not_mem_nil⟩ ?_ ?_
    · rintro n σ H' hn ⟨y4, y5, zs, rfl, sm, hL, hzl, hzs⟩
      have e0 : (0 : Int) + (n : Int) = (n : Int) := by omega
      rw [e0]
      refine ⟨.ref a, rfl, .int (n : Int), rfl, 12, (n : Int), rfl, rfl, a, ns, _, rfl, (s02.trans sm).seq hS, hlen, by omega, fun c => ⟨.int (n : Int), rfl, 3, (n : Int), rfl, rfl, .inl ⟨by decide, by decide⟩, c, _, rfl, rfl, ?_⟩⟩
      refine ⟨.ref L, rfl, .inl ⟨rfl, _, SqL.of hL⟩, .ref a, rfl, .int (n : Int), rfl, 2, (n : Int), rfl, rfl, a, ns, _, rfl, (s02.trans sm).seq hS, hlen, by omega, fun c2 => ⟨.int (n : Int), rfl, c2, (n : Int), rfl, rfl, .int _, rfl, .str z, rfl, _, _, z, rfl, hz, fun H'' y s'' hy => ?_⟩⟩
      refine ⟨L, _, _, rfl, rfl, s'' _ _ hL, small1000 (by rw [List.length_map]; omega), ?_⟩
      refine ⟨_, _, zs ++ [y], rfl, same_at (sm.trans s'') nL, by rw [upd_same, map_snocS], by rw [List.length_append, hzl]; rfl, fun x hx => ?_⟩
      rcases List.mem_append.mp hx with h | h
      · exact hzs x h
      · rw [List.mem_singleton.mp h]; exact hy
    rintro σ H4 ⟨y4, y5, zs, rfl, s4, hL, hzl, hzs⟩
    have s04 := s02.trans s4
    have hz100 : ∀ y ∈ zs, y.length ≤ 100 := fun y hy => Nat.le_trans (hzs y hy) (by decide)
    -- the bad ones
    refine ⟨.ref L, rfl, L, rfl, ⟨_, SqL.of hL⟩, fun D nD => ?_⟩
    refine lc_list (K := K) (a := L) (xs := zs.map V.str) (fun i H' => H' D = some (.lst (((zs.take i).filter fun z => !gd z).map V.str)) ∧ Same H4 H') ⟨upd_same, same_new nD⟩ (fun i H' _ ⟨_, s⟩ => SqL.of (s _ _ hL)) ?_ ?_
    · rintro i v H' hi ⟨hD, sm⟩
      rw [List.getElem?_map] at hi
      cases en : zs[i]? with
      | none => rw [en] at hi; cases hi
      | some y =>
      rw [en] at hi; cases hi
      have hilt := (List.getElem?_eq_some_iff.mp en).1
      have hle : ((zs.take i).filter fun z => !gd z).length ≤ 10 := Nat.le_trans (List.length_filter_le _ _) (by rw [List.length_take]; omega)
      have etk : zs.take (i + 1) = zs.take i ++ [y] := by rw [List.take_add_one, en]; rfl
      refine ⟨rfl, .str y, rfl, y, rfl, hz100 y (List.mem_of_getElem? en), _, rfl, ?_⟩
      rw [etk, List.filter_append]
      have hgy : gd y = rdB (tl y) := rfl
      cases hb : rdB (tl y) with
      | true =>
        rw [hb] at hgy
        refine iteF ⟨?_, sm⟩
        rw [List.filter_cons_of_neg (by rw [hgy]; decide), List.filter_nil, List.append_nil]; exact hD
      | false =>
        rw [hb] at hgy
        refine iteT ⟨.str y, rfl, _, hD, small1000 (by rw [List.length_map]; omega), ?_, same_at sm nD⟩
        rw [upd_same, List.filter_cons_of_pos (by rw [hgy]; rfl), List.filter_nil, map_snocS]
    rintro H5 ⟨hD, s5⟩
    rw [List.length_map, List.take_length] at hD
    have s05 := s04.trans s5
    have hL5 := s5 _ _ hL
    -- what is due
    refine ⟨.int (m : Int), rfl, .ref L, rfl, L, _, rfl, .inl (SqL.of hL5), fun l1 nl1 => ?_⟩
    have sA := same_new nl1 (o := .lst (zs.map V.str))
    have hl1 : (upd H5 l1 (.lst (zs.map V.str))) l1 = some (.lst (zs.map V.str)) := upd_same
    generalize upd H5 l1 (.lst (zs.map V.str)) = H6 at sA hl1 ⊢
    refine ⟨.ref L, rfl, L, _, rfl, .inl (SqL.of (sA _ _ hL5)), fun l2 nl2 => ?_⟩
    have sB := same_new nl2 (o := .lst (zs.map V.str))
    have hl2 : (upd H6 l2 (.lst (zs.map V.str))) l2 = some (.lst (zs.map V.str)) := upd_same
    have hl1' := sB _ _ hl1
    generalize upd H6 l2 (.lst (zs.map V.str)) = H7 at sB hl2 hl1' ⊢
    refine ⟨by show 4 ≤ sizeLine; decide, fun t0 nt0 => ?_⟩
    have sC := same_new nt0 (o := .tup [.str (Str.ofString "made"), .int (m : Int), .ref l1, .ref l2])
    have ht0 : (upd H7 t0 (.tup [.str (Str.ofString "made"), .int (m : Int), .ref l1, .ref l2])) t0 = some (.tup [.str (Str.ofString "made"), .int (m : Int), .ref l1, .ref l2]) := upd_same
    generalize upd H7 t0 (.tup [.str (Str.ofString "made"), .int (m : Int), .ref l1, .ref l2]) = H8 at sC ht0 ⊢
    have s58 := sA.trans (sB.trans sC)
    have hD8 := s58 _ _ hD
    have hL8 := s58 _ _ hL5
    have hl1'' := sC _ _ hl1'
    have hl2'' := sC _ _ hl2
    have s08 := s05.trans s58
    refine ⟨fun σ H' => ∃ td, σ = [some (.ref a), some (.str z), some (.int (m : Int)), some (.ref L), y4, y5, some (.ref D), some (.ref td), none, none, none, none, none] ∧ Same H8 H' ∧ MadeAt H' td zs, ?_, ?_⟩
    · refine ⟨.int (m : Int), rfl, (m : Int), 8, rfl, rfl, _, rfl, ite2 (fun h => ?_) (fun h => ?_)⟩
      · have h8 : 8 < zs.length := by have := of_decide_eq_true h; omega
        exact ⟨.int (m : Int), rfl, by show 2 ≤ sizeLine; decide, fun t2 nt2 => ⟨t2, rfl, same_new nt2, .inl ⟨h8, by rw [upd_same, hzl]⟩⟩⟩
      · have h8 : zs.length ≤ 8 := by
          have h1 : ¬ ((8 : Int) < (m : Int)) := fun h2 => h (decide_eq_true h2)
          omega
        refine ⟨.ref D, rfl, .ref D, ((zs.filter fun z => !gd z).map V.str).length, rfl, .inl ⟨_, SqL.of hD8, rfl⟩, _, 0, rfl, rfl, _, rfl, ?_⟩
        have hbh := badOf_head zs
        rw [List.length_map]
        generalize zs.filter (fun z => !gd z) = bs at hbh hD8 ⊢
        cases bs with
        | nil => exact iteF ⟨t0, rfl, Same.refl _, .inr (.inr ⟨h8, hbh, l1, l2, by rw [ht0, hzl], hl1'', hl2''⟩)⟩
        | cons b0 bs =>
          refine ite2 (fun _ => ⟨.ref D, rfl, D, _, 0, .str b0, rfl, rfl, SqL.of hD8, atI_nat (j := 0) rfl, by show 2 ≤ sizeLine; decide, fun t2 nt2 => ⟨t2, rfl, same_new nt2, .inr (.inl ⟨h8, b0, hbh, upd_same⟩)⟩⟩) (fun h0 => absurd (decide_eq_true (show (0 : Int) < (((b0 :: bs).length : Nat) : Int) by rw [List.length_cons]; omega)) h0)
    rintro σ H9 ⟨td, rfl, s9, hMd⟩
    have s09 := s08.trans s9
    have hL9 := s9 _ _ hL8
    clear hD hD8 hl1 hl2 hl1' hl1'' hl2'' ht0 hL0 hL hL5 hL8 sA sB sC s58 s5 s4 s9 nD nl1 nl2 nt0
    refine ⟨.ref L, rfl, L, _, rfl, .inl (SqL.of hL9), fun h1 nh1 => ?_⟩
    have sh := same_new nh1 (o := .lst (zs.map V.str))
    have hh1 : (upd H9 h1 (.lst (zs.map V.str))) h1 = some (.lst (zs.map V.str)) := upd_same
    generalize upd H9 h1 (.lst (zs.map V.str)) = H10 at sh hh1 ⊢
    refine ⟨.ref h1, rfl, h1, zs, rfl, hh1, by omega, hz100, fun H11 tm s11 hMm => ?_⟩
    have hMd11 := (hMd.same sh).same s11
    have hL11 := s11 _ _ (sh _ _ hL9)
    have s0b := s09.trans (sh.trans s11)
    refine ⟨.ref td, rfl, _, _, rfl, same_made (by omega) hMm hMd11, _, rfl, iteF ?_⟩
    refine ⟨.ref h1, rfl, .ref L, rfl, _, _, rfl, same_list1 1 (by omega) (s11 _ _ hh1) hL11, _, rfl, iteF ?_⟩
    -- refused
    refine ⟨fun σ H' => σ = [some (.ref a), some (.str z), some (.int (m : Int)), some (.ref L), y4, y5, some (.ref D), some (.ref td), some (.ref h1), none, none, none, none] ∧ Same H11 H', ?_, ?_⟩
    · have refu : (8 < zs.length ∨ ∃ z, badOf zs = some z) → _ := fun (h : 8 < zs.length ∨ ∃ z, badOf zs = some z) => h
      rcases hMd11 with ⟨h8, ht⟩ | ⟨h8, y, hb, ht⟩ | ⟨h8, hb, k1, k2, ht, _, _⟩
      · refine ⟨.ref td, rfl, td, _, 0, .str (Str.ofString "large"), rfl, rfl, SqT.of ht, atI_nat (j := 0) rfl, rfl, _, rfl, ?_⟩
        rw [show (!decide (V.str (Str.ofString "large") = V.str (Str.ofString "made"))) = true by rw [eqT]; decide +kernel]
        exact iteT ⟨.ref L, rfl, L, _, rfl, .inl (SqL.of hL11), fun r nr => ⟨r, zs, rfl, upd_same, by omega, hz100, .inl h8, fun H' s' => ⟨_, rfl, iteF ⟨rfl, (same_new nr).trans s'⟩⟩⟩⟩
      · refine ⟨.ref td, rfl, td, _, 0, .str (Str.ofString "bad"), rfl, rfl, SqT.of ht, atI_nat (j := 0) rfl, rfl, _, rfl, ?_⟩
        rw [show (!decide (V.str (Str.ofString "bad") = V.str (Str.ofString "made"))) = true by rw [eqT]; decide +kernel]
        exact iteT ⟨.ref L, rfl, L, _, rfl, .inl (SqL.of hL11), fun r nr => ⟨r, zs, rfl, upd_same, by omega, hz100, .inr ⟨y, hb⟩, fun H' s' => ⟨_, rfl, iteF ⟨rfl, (same_new nr).trans s'⟩⟩⟩⟩
      · refine ⟨.ref td, rfl, td, _, 0, .str (Str.ofString "made"), rfl, rfl, SqT.of ht, atI_nat (j := 0) rfl, rfl, _, rfl, ?_⟩
        rw [decide_eq_true (p := V.str (Str.ofString "made") = V.str (Str.ofString "made")) rfl]
        exact iteF ⟨rfl, Same.refl _⟩
    rintro σ H12 ⟨rfl, s12⟩
    have s0c := s0b.trans s12
    have hL12 := s12 _ _ hL11
    clear hMd11 hMm hMd hL11 hL9 hh1 nh1 sh s11
    -- the good ones
    refine ⟨.ref L, rfl, L, rfl, ⟨_, SqL.of hL12⟩, fun G nG => ?_⟩
    refine lc_list (K := K) (a := L) (xs := zs.map V.str) (fun i H' => H' G = some (.lst (((zs.take i).filter gd).map V.str)) ∧ Same H12 H') ⟨upd_same, same_new nG⟩ (fun i H' _ ⟨_, s⟩ => SqL.of (s _ _ hL12)) ?_ ?_
    · rintro i v H' hi ⟨hG, sm⟩
      rw [List.getElem?_map] at hi
      cases en : zs[i]? with
      | none => rw [en] at hi; cases hi
      | some y =>
      rw [en] at hi; cases hi
      have hilt := (List.getElem?_eq_some_iff.mp en).1
      have hle : ((zs.take i).filter gd).length ≤ 10 := Nat.le_trans (List.length_filter_le _ _) (by rw [List.length_take]; omega)
      have etk : zs.take (i + 1) = zs.take i ++ [y] := by rw [List.take_add_one, en]; rfl
      refine ⟨rfl, .str y, rfl, y, rfl, hz100 y (List.mem_of_getElem? en), _, rfl, ?_⟩
      rw [etk, List.filter_append]
      have hgy : gd y = rdB (tl y) := rfl
      cases hb : rdB (tl y) with
      | false =>
        rw [hb] at hgy
        refine iteF ⟨?_, sm⟩
        rw [List.filter_cons_of_neg (by rw [hgy]; decide), List.filter_nil, List.append_nil]; exact hG
      | true =>
        rw [hb] at hgy
        refine iteT ⟨.str y, rfl, _, hG, small1000 (by rw [List.length_map]; omega), ?_, same_at sm nG⟩
        rw [upd_same, List.filter_cons_of_pos (by rw [hgy]), List.filter_nil, map_snocS]
    rintro H13 ⟨hG, s13⟩
    rw [List.length_map, List.take_length] at hG
    refine ⟨.ref G, rfl, 8, rfl, G, _, rfl, SqL.of hG, fun g ng => ?_⟩
    have ecut : cutV ((zs.filter gd).map V.str) none (some 8) = ((zs.filter gd).take 8).map V.str := by
      rw [show (8 : Int) = ((8 : Nat) : Int) from rfl, cutV_take, ← List.map_take]
    rw [ecut]
    obtain ⟨gs, hgs⟩ : ∃ gs, gs = (zs.filter gd).take 8 := ⟨_, rfl⟩
    rw [← hgs]
    have hg8 : gs.length ≤ 8 := by rw [hgs, List.length_take]; omega
    have hgin : ∀ y ∈ gs, y ∈ zs ∧ gd y = true := fun y hy => by
      rw [hgs] at hy
      exact List.mem_filter.mp (List.mem_of_mem_take hy)
    have hg100 : ∀ y ∈ gs, y.length ≤ 100 := fun y hy => hz100 y (hgin y hy).1
    have hgb : badOf gs = none := badOf_none fun y hy => (hgin y hy).2
    have sg := same_new ng (o := .lst (gs.map V.str))
    have hg : (upd H13 g (.lst (gs.map V.str))) g = some (.lst (gs.map V.str)) := upd_same
    generalize upd H13 g (.lst (gs.map V.str)) = H14 at sg hg ⊢
    have lmap : (gs.map V.str).length = gs.length := List.length_map _
    refine ⟨.ref g, rfl, g, _, rfl, .inl (SqL.of hg), fun h2 nh2 => ?_⟩
    have sh2 := same_new nh2 (o := .lst (gs.map V.str))
    have hh2 : (upd H14 h2 (.lst (gs.map V.str))) h2 = some (.lst (gs.map V.str)) := upd_same
    generalize upd H14 h2 (.lst (gs.map V.str)) = H15 at sh2 hh2 ⊢
    -- the joints
    refine ⟨.ref h2, rfl, fun p dx np ndx hne => ?_⟩
    have sM := made_up (C := C) np ndx
    refine ⟨p, dx, h2, gs, rfl, upd_same, sM _ _ hh2, by omega, hg100, (fun h8 => by omega), (fun h8 y hb => by rw [hgb] at hb; cases hb), fun h8 hb H16 j1 hk nj1 hJ => ⟨rfl, ?_⟩⟩
    have s16 : Same H15 H16 := made_same np ndx hk
    obtain ⟨dy, fs, hp, hf, hj1⟩ := id hJ
    have hg16 := s16 _ _ (sh2 _ _ hg)
    have hh16 := s16 _ _ hh2
    have nph : p ≠ h2 := fun e => by rw [e, hh16] at hp; cases hp
    have njh : j1 ≠ h2 := fun e => by rw [e, sM _ _ hh2] at nj1; cases nj1
    have ngh : g ≠ h2 := ne_of_none hg nh2
    refine ⟨.ref h2, rfl, .ref g, rfl, _, _, rfl, same_list1 1 (by omega) hh16 hg16, _, rfl, iteF ?_⟩
    refine ⟨.ref h2, rfl, .inl ⟨rfl, _, SqL.of hh16⟩, h2, _, _, rfl, rfl, hh16, small1000 (by omega), ?_⟩
    have hh17 : (upd H16 h2 (.lst (gs.map V.str ++ [.str (Str.ofString "-")]))) h2 = some (.lst (gs.map V.str ++ [.str (Str.ofString "-")])) := upd_same
    have k17 : ∀ b o, b ≠ h2 → H16 b = some o → (upd H16 h2 (.lst (gs.map V.str ++ [.str (Str.ofString "-")]))) b = some o := fun b o hb e => by rw [upd_ne hb]; exact e
    generalize upd H16 h2 (.lst (gs.map V.str ++ [.str (Str.ofString "-")])) = H17 at hh17 k17 ⊢
    refine ⟨.ref h2, rfl, h2, _, 0, 0, rfl, rfl, hh17, by rw [List.length_append, lmap]; simp [ixN]; try omega, ?_⟩
    have k18 : ∀ b o, b ≠ h2 → H16 b = some o → (upd H17 h2 (.lst ((gs.map V.str ++ [V.str (Str.ofString "-")]).set 0 (V.str (Str.ofString "a-a no"))))) b = some o := fun b o hb e => by rw [upd_ne hb]; exact k17 b o hb e
    generalize upd H17 h2 (.lst ((gs.map V.str ++ [V.str (Str.ofString "-")]).set 0 (V.str (Str.ofString "a-a no")))) = H18 at k18 ⊢
    have hg18 := k18 _ _ ngh hg16
    have hJ18 : JA C H18 p j1 gs := ⟨dy, fs, k18 _ _ nph hp, hf, k18 _ _ njh hj1⟩
    have line : ∀ n : Nat, n ≤ 1000 → n ≤ sizeLine := fun n h => Nat.le_trans h (by decide)
    refine ⟨.ref p, rfl, p, dy, fs, gs.length, rfl, k18 _ _ nph hp, line _ (by omega), ⟨p, j1, gs, rfl, hJ18, by omega, rfl, rfl⟩, .ref g, rfl, .ref g, (gs.map V.str).length, rfl, .inl ⟨_, SqL.of hg18, rfl⟩, rfl, _, rfl, ?_⟩
    rw [lmap, decide_eq_true rfl]
    refine iteF ?_
    refine ⟨.ref p, rfl, p, dy, j1, fs, gs.map V.str, gs.length, rfl, k18 _ _ nph hp, hf, k18 _ _ njh hj1, by rw [lmap]; omega, line _ (by omega), fun H'' s'' => ⟨p, j1, gs, rfl, hJ18.same s'', by omega, rfl, rfl⟩, fun r nr => ?_⟩
    have sr := same_new nr (o := .lst (gs.map V.str))
    have hr0 : (upd H18 r (.lst (gs.map V.str))) r = some (.lst (gs.map V.str)) := upd_same
    generalize upd H18 r (.lst (gs.map V.str)) = H19 at sr hr0 ⊢
    have hg19 := sr _ _ hg18
    refine ⟨.ref g, rfl, _, _, rfl, same_list1 1 (by omega) hr0 hg19, _, rfl, iteF ?_⟩
    have hJ19 := hJ18.same sr
    -- the other
    have edr : cutV (gs.map V.str) (some 1) none = (gs.drop 1).map V.str := by
      rw [show (1 : Int) = ((1 : Nat) : Int) from rfl, cutV_drop, ← List.map_drop]
    obtain ⟨os, hos⟩ : ∃ os, os = gs.drop 1 := ⟨_, rfl⟩
    rw [← hos] at edr
    have ho8 : os.length ≤ 8 := by rw [hos, List.length_drop]; omega
    have hoin : ∀ y ∈ os, y ∈ gs := fun y hy => by rw [hos] at hy; exact List.mem_of_mem_drop hy
    have ho100 : ∀ y ∈ os, y.length ≤ 100 := fun y hy => hg100 y (hoin y hy)
    have hob : badOf os = none := badOf_none fun y hy => (hgin y (hoin y hy)).2
    have omap : (os.map V.str).length = os.length := List.length_map _
    refine ⟨.ref g, rfl, 1, rfl, g, _, rfl, SqL.of hg19, fun u1 nu1 => ?_⟩
    rw [edr]
    have su1 := same_new nu1 (o := .lst (os.map V.str))
    have hu1 : (upd H19 u1 (.lst (os.map V.str))) u1 = some (.lst (os.map V.str)) := upd_same
    generalize upd H19 u1 (.lst (os.map V.str)) = H20 at su1 hu1 ⊢
    refine ⟨u1, _, rfl, .inl (SqL.of hu1), fun u2 nu2 => ?_⟩
    have su2 := same_new nu2 (o := .lst (os.map V.str))
    have hu2 : (upd H20 u2 (.lst (os.map V.str))) u2 = some (.lst (os.map V.str)) := upd_same
    generalize upd H20 u2 (.lst (os.map V.str)) = H21 at su2 hu2 ⊢
    refine fun p2 dx2 np2 ndx2 hne2 => ?_
    have sM2 := made_up (C := C) np2 ndx2
    refine ⟨p2, dx2, u2, os, rfl, upd_same, sM2 _ _ hu2, by omega, ho100, (fun h8 => by omega), (fun h8 y hb => by rw [hob] at hb; cases hb), fun h8 hb H22 j2 hk2 nj2 hJ2 => ⟨rfl, ?_⟩⟩
    have s22 : Same H21 H22 := made_same np2 ndx2 hk2
    have sAll := su1.trans (su2.trans s22)
    obtain ⟨dy2, fs2, hp2, hf2, hj2⟩ := id hJ2
    have hg22 := sAll _ _ hg19
    have hJ22 := hJ19.same sAll
    refine ⟨.ref p2, rfl, p2, dy2, fs2, os.length, rfl, hp2, line _ (by omega), ⟨p2, j2, os, rfl, hJ2, by omega, rfl, rfl⟩, .ref g, rfl, 1, rfl, g, _, rfl, SqL.of hg22, fun u3 nu3 => ?_⟩
    rw [edr]
    have su3 := same_new nu3 (o := .lst (os.map V.str))
    have hu3 : (upd H22 u3 (.lst (os.map V.str))) u3 = some (.lst (os.map V.str)) := upd_same
    generalize upd H22 u3 (.lst (os.map V.str)) = H23 at su3 hu3 ⊢
    refine ⟨.ref u3, (os.map V.str).length, rfl, .inl ⟨_, SqL.of hu3, rfl⟩, rfl, _, rfl, ?_⟩
    rw [omap, decide_eq_true rfl]
    refine iteF ?_
    refine ⟨.ref p2, rfl, p2, dy2, j2, fs2, os.map V.str, os.length, rfl, su3 _ _ hp2, hf2, su3 _ _ hj2, by rw [omap]; omega, line _ (by omega), fun H'' s'' => ⟨p2, j2, os, rfl, (hJ2.same su3).same s'', by omega, rfl, rfl⟩, fun r2 nr2 => ?_⟩
    have sr2 := same_new nr2 (o := .lst (os.map V.str))
    have hr2' : (upd H23 r2 (.lst (os.map V.str))) r2 = some (.lst (os.map V.str)) := upd_same
    generalize upd H23 r2 (.lst (os.map V.str)) = H24 at sr2 hr2' ⊢
    have hg24 := sr2 _ _ (su3 _ _ hg22)
    refine ⟨.ref g, rfl, 1, rfl, g, _, rfl, SqL.of hg24, fun u4 nu4 => ?_⟩
    rw [edr]
    have su4 := same_new nu4 (o := .lst (os.map V.str))
    have hu4 : (upd H24 u4 (.lst (os.map V.str))) u4 = some (.lst (os.map V.str)) := upd_same
    generalize upd H24 u4 (.lst (os.map V.str)) = H25 at su4 hu4 ⊢
    refine ⟨_, _, rfl, same_list1 1 (by omega) (su4 _ _ hr2') hu4, _, rfl, iteF ?_⟩
    have s2225 := su3.trans (sr2.trans su4)
    have hJ25 := hJ22.same s2225
    obtain ⟨dy', fs', hp', hf', hj1'⟩ := id hJ25
    refine ⟨.ref p, rfl, p, dy', j1, fs', gs.map V.str, gs.length, rfl, hp', hf', hj1', by rw [lmap]; omega, line _ (by omega), fun H'' s'' => ⟨p, j1, gs, rfl, hJ25.same s'', by omega, rfl, rfl⟩, fun r3 nr3 => ?_⟩
    exact ⟨.ref g, rfl, _, _, rfl, same_list1 1 (by omega) upd_same ((same_new nr3) _ _ (s2225 _ _ hg22)), q _⟩
end
end K28

set_option maxRecDepth 100000
set_option maxHeartbeats 4000000
namespace K28
open PySem PySem.Spec PyProof.Rows L2
theorem all_mk {l : PySem.W.OpenLaw} {w : World} {K : PySem.W.Frag} {h : Heap} {mg : Str → Option Value} {fa C CJ CT CL f1 f2 f3 f4 f5 f6 f7 f8 f9 f10 f11 f12 f13 f14 f15 f16 f17 f18 f19 f20 f21 : Addr} (X : K.In h) (G : h.Ns mainGlobals mg) (hfa : mg "law" = some (.ref fa))
    {tk0 tk1 tk2 tk3 tk4 : Tok}
    {od1 an1 od2 an2 od3 an3 od4 an4 od5 an5 od6 an6 od7 an7 od8 an8 od9 an9 od10 an10 od11 an11 od12 an12 od13 an13 od14 an14 od15 an15 od16 an16 od17 an17 od18 an18 od19 an19 od20 an20 od21 an21 : Option Addr} {sl1 sl2 sl3 sl4 sl5 sl6 sl7 sl8 sl9 sl10 sl11 sl12 sl13 sl14 sl15 sl16 sl17 sl18 sl19 sl20 sl21 : Array (Option Value)}
    {oc1 kV1 dc1 pm1 cd1 ct1 oc2 kV2 dc2 pm2 cd2 ct2 oc3 kV3 dc3 pm3 cd3 ct3 oc4 kV4 dc4 pm4 cd4 ct4 oc5 kV5 dc5 pm5 cd5 ct5 oc6 kV6 dc6 pm6 cd6 ct6 oc7 kV7 dc7 pm7 cd7 ct7 oc8 kV8 dc8 pm8 cd8 ct8 oc9 kV9 dc9 pm9 cd9 ct9 oc10 kV10 dc10 pm10 cd10 ct10 oc11 kV11 dc11 pm11 cd11 ct11 oc12 kV12 dc12 pm12 cd12 ct12 oc13 kV13 dc13 pm13 cd13 ct13 oc14 kV14 dc14 pm14 cd14 ct14 oc15 kV15 dc15 pm15 cd15 ct15 oc16 kV16 dc16 pm16 cd16 ct16 oc17 kV17 dc17 pm17 cd17 ct17 oc18 kV18 dc18 pm18 cd18 ct18 oc19 kV19 dc19 pm19 cd19 ct19 oc20 kV20 dc20 pm20 cd20 ct20 oc21 kV21 dc21 pm21 cd21 ct21 : Value}
    {nm_CJ q_CJ : Str} {N_CJ : Addr} {bs_CJ bm_CJ : List Value} {sn_CJ : List Str} {sub_CJ : List Value} {ab_CJ : Bool} {col_CJ : Option Bool} {dd_CJ : Option Addr} {m0_CJ m1_CJ m2_CJ m3_CJ m5_CJ : Option Value}
    {nm_CT q_CT : Str} {N_CT : Addr} {bs_CT bm_CT : List Value} {sn_CT : List Str} {sub_CT : List Value} {ab_CT : Bool} {col_CT : Option Bool} {dd_CT : Option Addr} {m0_CT m1_CT m2_CT m3_CT m5_CT : Option Value}
    (c_MOST_JOINT_ROWS : PySem.W.nsIn K mainGlobals "MOST_JOINT_ROWS" = some (some (.int 8 tk0)))
    (c_LONGEST_PART : PySem.W.nsIn K mainGlobals "LONGEST_PART" = some (some (.int 3 tk1)))
    (c_ANY_LETTER : PySem.W.nsIn K mainGlobals "ANY_LETTER" = some (some (.str (Str.ofString "?") tk2)))
    (c_WORD_END : PySem.W.nsIn K mainGlobals "WORD_END" = some (some (.str (Str.ofString ".") tk3)))
    (c_FORBIDS : PySem.W.nsIn K mainGlobals "FORBIDS" = some (some (.str (Str.ofString " no") tk4)))
    (aC : PySem.W.nsIn K mainGlobals "Joints" = some (some (.ref C)))
    (pgC : PySem.W.plainGet K C Str.empty = true)
    (hdC : PySem.W.hasDictIn K C = true)
    (poC : PySem.W.plainOver K C = true)
    (saC : PySem.W.findIn K (.ref C) "__setattr__" = some (some (.builtin "object.__setattr__")))
    (mkC : PySem.W.makesIn K C = true)
    (kcC : PySem.W.keepIn K (.ref C) = true)
    (nC_lines : PySem.W.findIn K (.ref C) "_lines" = some none)
    (nC_rows : PySem.W.findIn K (.ref C) "_rows" = some none)
    (aCL : PySem.W.nsIn K mainGlobals "LaidError" = some (some (.ref CL)))
    (aCJ : PySem.W.nsIn K mainGlobals "BadJoint" = some (some (.ref CJ)))
    (x_CJ : K.lookup CJ = some (excClassObj nm_CJ q_CJ CJ N_CJ bs_CJ bm_CJ true sn_CJ sub_CJ ab_CJ col_CJ dd_CJ m0_CJ m1_CJ m2_CJ m3_CJ m5_CJ "ValueError.__new__"))
    (xb_CJ : PySem.HandSPX.refsVE bm_CJ = true)
    (sa_CJ : PySem.W.findIn K (.ref CJ) "__setattr__" = some (some (.builtin "object.__setattr__")))
    (xe_CJ : PySem.W.subIn K (.ref CJ) (.type "BaseException") = some true)
    (xt_CJ : PySem.W.typeIn K (.ref CJ) = some (.type "type"))
    (xk_CJ : PySem.W.keepIn K (.ref CJ) = true)
    (f_CJ_text : PySem.W.findIn K (.ref CJ) "text" = some none)
    (hg_CJ : PySem.W.findIn K (.ref CJ) "__getattribute__" = some (some (.builtin "BaseException.__getattribute__")))
    (hk_CJ : PySem.W.findIn K (.ref CJ) "__getattr__" = some none)
    (hd_CJ : PySem.W.hasDictIn K CJ = true)
    (ha_CJ : PySem.W.findIn K (.ref CJ) "__class__" = some (some (.builtin "object.__class__")))
    (hn_CJ : PySem.W.specialIn K (.builtin "object.__class__") "__get__" = some (some (.builtin "getset_descriptor.__get__")))
    (ht_CJ : PySem.W.takesIn K (.builtin "object.__class__") = some true)
    (hm_CJ : PySem.W.mroIn K CJ (.type "object") = some true)
    (ls_CJ : PySem.W.subIn K (.ref CJ) (.ref CJ) = some true)
    (k3_CJ : PySem.W.kitOne K (.ref CJ) (.type "ValueError") = some true)
    (aCT : PySem.W.nsIn K mainGlobals "TooLarge" = some (some (.ref CT)))
    (x_CT : K.lookup CT = some (excClassObj nm_CT q_CT CT N_CT bs_CT bm_CT true sn_CT sub_CT ab_CT col_CT dd_CT m0_CT m1_CT m2_CT m3_CT m5_CT "ValueError.__new__"))
    (xb_CT : PySem.HandSPX.refsVE bm_CT = true)
    (sa_CT : PySem.W.findIn K (.ref CT) "__setattr__" = some (some (.builtin "object.__setattr__")))
    (xe_CT : PySem.W.subIn K (.ref CT) (.type "BaseException") = some true)
    (xt_CT : PySem.W.typeIn K (.ref CT) = some (.type "type"))
    (xk_CT : PySem.W.keepIn K (.ref CT) = true)
    (f_CT_many : PySem.W.findIn K (.ref CT) "many" = some none)
    (hg_CT : PySem.W.findIn K (.ref CT) "__getattribute__" = some (some (.builtin "BaseException.__getattribute__")))
    (hk_CT : PySem.W.findIn K (.ref CT) "__getattr__" = some none)
    (hd_CT : PySem.W.hasDictIn K CT = true)
    (ha_CT : PySem.W.findIn K (.ref CT) "__class__" = some (some (.builtin "object.__class__")))
    (hn_CT : PySem.W.specialIn K (.builtin "object.__class__") "__get__" = some (some (.builtin "getset_descriptor.__get__")))
    (ht_CT : PySem.W.takesIn K (.builtin "object.__class__") = some true)
    (hm_CT : PySem.W.mroIn K CT (.type "object") = some true)
    (ls_CT : PySem.W.subIn K (.ref CT) (.ref CT) = some true)
    (k1_CT : PySem.W.kitOne K (.ref CT) (.ref CJ) = some false)
    (k2_CT : PySem.W.kitOne K (.ref CT) (.type "ValueError") = some true)
    (s_jt : PySem.W.subIn K (.ref CJ) (.ref CT) = some false)
    (l_xe : PySem.W.subIn K (.ref CL) (.type "BaseException") = some true)
    (l_hd : PySem.W.hasDictIn K CL = true)
    (l_xt : PySem.W.typeIn K (.ref CL) = some (.type "type"))
    (l_t : PySem.W.subIn K (.ref CT) (.ref CL) = some true)
    (l_j : PySem.W.subIn K (.ref CJ) (.ref CL) = some true)
    (a1 : PySem.W.nsIn K mainGlobals "is_letter" = some (some (.ref f1)))
    (l1 : K.lookup f1 = some ⟨oc1, od1, .func (PySem.W.fnOf "is_letter" "is_letter" (defArgs sLetter) (defBody sLetter) (defScope sLetter) .none kV1 dc1 pm1 an1 cd1 ct1), sl1⟩)
    (c1 : PySem.W.codeIn K cd1 "is_letter" = true)
    (k1 : PySem.W.keepIn K (.ref f1) = true)
    (a2 : PySem.W.nsIn K mainGlobals "_is_part" = some (some (.ref f2)))
    (l2 : K.lookup f2 = some ⟨oc2, od2, .func (PySem.W.fnOf "_is_part" "_is_part" (defArgs sPart) (defBody sPart) (defScope sPart) .none kV2 dc2 pm2 an2 cd2 ct2), sl2⟩)
    (c2 : PySem.W.codeIn K cd2 "_is_part" = true)
    (k2 : PySem.W.keepIn K (.ref f2) = true)
    (a3 : PySem.W.nsIn K mainGlobals "_read_joint" = some (some (.ref f3)))
    (l3 : K.lookup f3 = some ⟨oc3, od3, .func (PySem.W.fnOf "_read_joint" "_read_joint" (defArgs sRead) (defBody sRead) (defScope sRead) .none kV3 dc3 pm3 an3 cd3 ct3), sl3⟩)
    (c3 : PySem.W.codeIn K cd3 "_read_joint" = true)
    (k3 : PySem.W.keepIn K (.ref f3) = true)
    (a4 : PySem.W.nsIn K mainGlobals "_law_cell" = some (some (.ref f4)))
    (l4 : K.lookup f4 = some ⟨oc4, od4, .func (PySem.W.fnOf "_law_cell" "_law_cell" (defArgs sCell) (defBody sCell) (defScope sCell) .none kV4 dc4 pm4 an4 cd4 ct4), sl4⟩)
    (c4 : PySem.W.codeIn K cd4 "_law_cell" = true)
    (k4 : PySem.W.keepIn K (.ref f4) = true)
    (a5 : PySem.W.nsIn K mainGlobals "_law_row" = some (some (.ref f5)))
    (l5 : K.lookup f5 = some ⟨oc5, od5, .func (PySem.W.fnOf "_law_row" "_law_row" (defArgs sRow) (defBody sRow) (defScope sRow) .none kV5 dc5 pm5 an5 cd5 ct5), sl5⟩)
    (c5 : PySem.W.codeIn K cd5 "_law_row" = true)
    (k5 : PySem.W.keepIn K (.ref f5) = true)
    (a6 : PySem.W.nsIn K mainGlobals "_law_same" = some (some (.ref f6)))
    (l6 : K.lookup f6 = some ⟨oc6, od6, .func (PySem.W.fnOf "_law_same" "_law_same" (defArgs sSame) (defBody sSame) (defScope sSame) .none kV6 dc6 pm6 an6 cd6 ct6), sl6⟩)
    (c6 : PySem.W.codeIn K cd6 "_law_same" = true)
    (k6 : PySem.W.keepIn K (.ref f6) = true)
    (a7 : PySem.W.nsIn K mainGlobals "_law_letters" = some (some (.ref f7)))
    (l7 : K.lookup f7 = some ⟨oc7, od7, .func (PySem.W.fnOf "_law_letters" "_law_letters" (defArgs sLetters) (defBody sLetters) (defScope sLetters) .none kV7 dc7 pm7 an7 cd7 ct7), sl7⟩)
    (c7 : PySem.W.codeIn K cd7 "_law_letters" = true)
    (k7 : PySem.W.keepIn K (.ref f7) = true)
    (a8 : PySem.W.nsIn K mainGlobals "_law_joint" = some (some (.ref f8)))
    (l8 : K.lookup f8 = some ⟨oc8, od8, .func (PySem.W.fnOf "_law_joint" "_law_joint" (defArgs sJoint) (defBody sJoint) (defScope sJoint) .none kV8 dc8 pm8 an8 cd8 ct8), sl8⟩)
    (c8 : PySem.W.codeIn K cd8 "_law_joint" = true)
    (k8 : PySem.W.keepIn K (.ref f8) = true)
    (a9 : PySem.W.nsIn K mainGlobals "_law_written" = some (some (.ref f9)))
    (l9 : K.lookup f9 = some ⟨oc9, od9, .func (PySem.W.fnOf "_law_written" "_law_written" (defArgs sWritten) (defBody sWritten) (defScope sWritten) .none kV9 dc9 pm9 an9 cd9 ct9), sl9⟩)
    (c9 : PySem.W.codeIn K cd9 "_law_written" = true)
    (k9 : PySem.W.keepIn K (.ref f9) = true)
    (a10 : PySem.W.nsIn K mainGlobals "_law_odd" = some (some (.ref f10)))
    (l10 : K.lookup f10 = some ⟨oc10, od10, .func (PySem.W.fnOf "_law_odd" "_law_odd" (defArgs sOdd) (defBody sOdd) (defScope sOdd) .none kV10 dc10 pm10 an10 cd10 ct10), sl10⟩)
    (c10 : PySem.W.codeIn K cd10 "_law_odd" = true)
    (k10 : PySem.W.keepIn K (.ref f10) = true)
    (a11 : PySem.W.nsIn K mainGlobals "_law_line" = some (some (.ref f11)))
    (l11 : K.lookup f11 = some ⟨oc11, od11, .func (PySem.W.fnOf "_law_line" "_law_line" (defArgs sLine) (defBody sLine) (defScope sLine) .none kV11 dc11 pm11 an11 cd11 ct11), sl11⟩)
    (c11 : PySem.W.codeIn K cd11 "_law_line" = true)
    (k11 : PySem.W.keepIn K (.ref f11) = true)
    (a12 : PySem.W.nsIn K mainGlobals "_law_is_part" = some (some (.ref f12)))
    (l12 : K.lookup f12 = some ⟨oc12, od12, .func (PySem.W.fnOf "_law_is_part" "_law_is_part" (defArgs sLPart) (defBody sLPart) (defScope sLPart) .none kV12 dc12 pm12 an12 cd12 ct12), sl12⟩)
    (c12 : PySem.W.codeIn K cd12 "_law_is_part" = true)
    (k12 : PySem.W.keepIn K (.ref f12) = true)
    (a13 : PySem.W.nsIn K mainGlobals "_law_is_written" = some (some (.ref f13)))
    (l13 : K.lookup f13 = some ⟨oc13, od13, .func (PySem.W.fnOf "_law_is_written" "_law_is_written" (defArgs sLWritten) (defBody sLWritten) (defScope sLWritten) .none kV13 dc13 pm13 an13 cd13 ct13), sl13⟩)
    (c13 : PySem.W.codeIn K cd13 "_law_is_written" = true)
    (k13 : PySem.W.keepIn K (.ref f13) = true)
    (a14 : PySem.W.nsIn K mainGlobals "_law_made" = some (some (.ref f14)))
    (l14 : K.lookup f14 = some ⟨oc14, od14, .func (PySem.W.fnOf "_law_made" "_law_made" (defArgs sMade) (defBody sMade) (defScope sMade) .none kV14 dc14 pm14 an14 cd14 ct14), sl14⟩)
    (c14 : PySem.W.codeIn K cd14 "_law_made" = true)
    (k14 : PySem.W.keepIn K (.ref f14) = true)
    (a15 : PySem.W.nsIn K mainGlobals "_law_refused" = some (some (.ref f15)))
    (l15 : K.lookup f15 = some ⟨oc15, od15, .func (PySem.W.fnOf "_law_refused" "_law_refused" (defArgs sRefused) (defBody sRefused) (defScope sRefused) .none kV15 dc15 pm15 an15 cd15 ct15), sl15⟩)
    (c15 : PySem.W.codeIn K cd15 "_law_refused" = true)
    (k15 : PySem.W.keepIn K (.ref f15) = true)
    (a16 : PySem.W.nsIn K mainGlobals "law" = some (some (.ref f16)))
    (l16 : K.lookup f16 = some ⟨oc16, od16, .func (PySem.W.fnOf "law" "law" (defArgs sLaw) (defBody sLaw) (defScope sLaw) .none kV16 dc16 pm16 an16 cd16 ct16), sl16⟩)
    (c16 : PySem.W.codeIn K cd16 "law" = true)
    (k16 : PySem.W.keepIn K (.ref f16) = true)
    (a17 : PySem.W.findIn K (.ref C) "__init__" = some (some (.ref f17)))
    (i17 : PySem.W.isFn K (.ref f17) = true)
    (l17 : K.lookup f17 = some ⟨oc17, od17, .func (PySem.W.fnOf "__init__" "Joints.__init__" (defArgs sInit) (defBody sInit) (defScope sInit) .none kV17 dc17 pm17 an17 cd17 ct17), sl17⟩)
    (c17 : PySem.W.codeIn K cd17 "Joints.__init__" = true)
    (k17 : PySem.W.keepIn K (.ref f17) = true)
    (a18 : PySem.W.findIn K (.ref C) "__len__" = some (some (.ref f18)))
    (i18 : PySem.W.isFn K (.ref f18) = true)
    (x18 : PySem.W.typeIn K (.ref f18) = some (.type "function"))
    (l18 : K.lookup f18 = some ⟨oc18, od18, .func (PySem.W.fnOf "__len__" "Joints.__len__" (defArgs sLen) (defBody sLen) (defScope sLen) .none kV18 dc18 pm18 an18 cd18 ct18), sl18⟩)
    (c18 : PySem.W.codeIn K cd18 "Joints.__len__" = true)
    (k18 : PySem.W.keepIn K (.ref f18) = true)
    (a19 : PySem.W.findIn K (.ref C) "__iter__" = some (some (.ref f19)))
    (i19 : PySem.W.isFn K (.ref f19) = true)
    (l19 : K.lookup f19 = some ⟨oc19, od19, .func (PySem.W.fnOf "__iter__" "Joints.__iter__" (defArgs sIter) (defBody sIter) (defScope sIter) .none kV19 dc19 pm19 an19 cd19 ct19), sl19⟩)
    (c19 : PySem.W.codeIn K cd19 "Joints.__iter__" = true)
    (k19 : PySem.W.keepIn K (.ref f19) = true)
    (a20 : PySem.W.findIn K (.ref CJ) "__init__" = some (some (.ref f20)))
    (l20 : K.lookup f20 = some ⟨oc20, od20, .func (PySem.W.fnOf "__init__" "BadJoint.__init__" (defArgs sBJInit) (defBody sBJInit) (defScope sBJInit) .none kV20 dc20 pm20 an20 cd20 ct20), sl20⟩)
    (c20 : PySem.W.codeIn K cd20 "BadJoint.__init__" = true)
    (k20 : PySem.W.keepIn K (.ref f20) = true)
    (t20 : PySem.W.typeIn K (.ref f20) = some (.type "function"))
    (a21 : PySem.W.findIn K (.ref CT) "__init__" = some (some (.ref f21)))
    (l21 : K.lookup f21 = some ⟨oc21, od21, .func (PySem.W.fnOf "__init__" "TooLarge.__init__" (defArgs sTLInit) (defBody sTLInit) (defScope sTLInit) .none kV21 dc21 pm21 an21 cd21 ct21), sl21⟩)
    (c21 : PySem.W.codeIn K cd21 "TooLarge.__init__" = true)
    (k21 : PySem.W.keepIn K (.ref f21) = true)
    (t21 : PySem.W.typeIn K (.ref f21) = some (.type "function"))
    (z0 : PySem.W.nsIn K mainGlobals "len" = some none)
    (z1 : PySem.W.nsIn K mainGlobals "int" = some none)
    (z2 : PySem.W.nsIn K mainGlobals "str" = some none)
    (z3 : PySem.W.nsIn K mainGlobals "bool" = some none)
    (z4 : PySem.W.nsIn K mainGlobals "tuple" = some none)
    (z5 : PySem.W.nsIn K mainGlobals "list" = some none)
    (z6 : PySem.W.nsIn K mainGlobals "range" = some none)
    (z7 : PySem.W.nsIn K mainGlobals "isinstance" = some none)
    (z8 : PySem.W.nsIn K mainGlobals "sorted" = some none)
    (z9 : PySem.W.nsIn K mainGlobals "enumerate" = some none)
    (z10 : PySem.W.nsIn K mainGlobals "zip" = some none)
    (z11 : PySem.W.nsIn K mainGlobals "all" = some none)
    (z12 : PySem.W.nsIn K mainGlobals "iter" = some none)
    (z13 : PySem.W.nsIn K mainGlobals "ValueError" = some none) :
    ∃ fd : FuncData, (∀ (s : Shared) (v : Value), BindsTo s fd ⟨[v], []⟩ [("_law_script", v)]) ∧ ∀ base : Heap, K.In base → base.Ns mainGlobals mg → FnOk l.prog w K mg base CX0 8 fa fd ["_law_script"] (spLaw K) := by
  have e := hfa.symm.trans (PySem.W.mg_of X G a16); cases e
  have B : Blt mg := ⟨PySem.W.mg_none_of X G z0, PySem.W.mg_none_of X G z1, PySem.W.mg_none_of X G z2, PySem.W.mg_none_of X G z3, PySem.W.mg_none_of X G z4, PySem.W.mg_none_of X G z5, PySem.W.mg_none_of X G z6, PySem.W.mg_none_of X G z7, PySem.W.mg_none_of X G z8, PySem.W.mg_none_of X G z9, PySem.W.mg_none_of X G z10, PySem.W.mg_none_of X G z11, PySem.W.mg_none_of X G z12, PySem.W.mg_none_of X G z13⟩
  have Z : Cst mg tk0 tk1 tk2 tk3 tk4 := ⟨PySem.W.mg_of X G c_MOST_JOINT_ROWS, PySem.W.mg_of X G c_LONGEST_PART, PySem.W.mg_of X G c_ANY_LETTER, PySem.W.mg_of X G c_WORD_END, PySem.W.mg_of X G c_FORBIDS⟩
  have F1 := fun_mk (st := sLetter) l1 c1 k1
  have F2 := fun_mk (st := sPart) l2 c2 k2
  have F3 := fun_mk (st := sRead) l3 c3 k3
  have F4 := fun_mk (st := sCell) l4 c4 k4
  have F5 := fun_mk (st := sRow) l5 c5 k5
  have F6 := fun_mk (st := sSame) l6 c6 k6
  have F7 := fun_mk (st := sLetters) l7 c7 k7
  have F8 := fun_mk (st := sJoint) l8 c8 k8
  have F9 := fun_mk (st := sWritten) l9 c9 k9
  have F10 := fun_mk (st := sOdd) l10 c10 k10
  have F11 := fun_mk (st := sLine) l11 c11 k11
  have F12 := fun_mk (st := sLPart) l12 c12 k12
  have F13 := fun_mk (st := sLWritten) l13 c13 k13
  have F14 := fun_mk (st := sMade) l14 c14 k14
  have F15 := fun_mk (st := sRefused) l15 c15 k15
  have F16 := fun_mk (st := sLaw) l16 c16 k16
  have F17 := fun_mk (st := sInit) l17 c17 k17
  have F18 := fun_mk (st := sLen) l18 c18 k18
  have F19 := fun_mk (st := sIter) l19 c19 k19
  have F20 := fun_mk (st := sBJInit) l20 c20 k20
  have F21 := fun_mk (st := sTLInit) l21 c21 k21
  have b1 := F1.binds (ps := ["char"]) fun _ _ _ _ _ _ us hl => match us, hl with | [_], _ => rfl
  have b2 := F2.binds (ps := ["text", "end"]) fun _ _ _ _ _ _ us hl => match us, hl with | [_, _], _ => rfl
  have b3 := F3.binds (ps := ["line"]) fun _ _ _ _ _ _ us hl => match us, hl with | [_], _ => rfl
  have b4 := F4.binds (ps := ["_law_script", "_law_k"]) fun _ _ _ _ _ _ us hl => match us, hl with | [_, _], _ => rfl
  have b5 := F5.binds (ps := ["_law_cell_here", "_law_limits"]) fun _ _ _ _ _ _ us hl => match us, hl with | [_, _], _ => rfl
  have b6 := F6.binds (ps := ["_law_one", "_law_two"]) fun _ _ _ _ _ _ us hl => match us, hl with | [_, _], _ => rfl
  have b7 := F7.binds (ps := ["_law_cell_here"]) fun _ _ _ _ _ _ us hl => match us, hl with | [_], _ => rfl
  have b8 := F8.binds (ps := ["_law_cell_here", "_law_letters_here", "_law_share"]) fun _ _ _ _ _ _ us hl => match us, hl with | [_, _, _], _ => rfl
  have b9 := F9.binds (ps := ["_law_row_here"]) fun _ _ _ _ _ _ us hl => match us, hl with | [_], _ => rfl
  have b10 := F10.binds (ps := ["_law_pick"]) fun _ _ _ _ _ _ us hl => match us, hl with | [_], _ => rfl
  have b11 := F11.binds (ps := ["_law_cell_here", "_law_more", "_law_letters_here"]) fun _ _ _ _ _ _ us hl => match us, hl with | [_, _, _], _ => rfl
  have b12 := F12.binds (ps := ["_law_part", "_law_dot"]) fun _ _ _ _ _ _ us hl => match us, hl with | [_, _], _ => rfl
  have b13 := F13.binds (ps := ["_law_text"]) fun _ _ _ _ _ _ us hl => match us, hl with | [_], _ => rfl
  have b14 := F14.binds (ps := ["_law_lines"]) fun _ _ _ _ _ _ us hl => match us, hl with | [_], _ => rfl
  have b15 := F15.binds (ps := ["_law_lines"]) fun _ _ _ _ _ _ us hl => match us, hl with | [_], _ => rfl
  have b17 := F17.binds (ps := ["self", "lines"]) fun _ _ _ _ _ _ us hl => match us, hl with | [_, _], _ => rfl
  have b18 := F18.binds (ps := ["self"]) fun _ _ _ _ _ _ us hl => match us, hl with | [_], _ => rfl
  have b19 := F19.binds (ps := ["self"]) fun _ _ _ _ _ _ us hl => match us, hl with | [_], _ => rfl
  have b20 := F20.binds (ps := ["self", "text"]) fun _ _ _ _ _ _ us hl => match us, hl with | [_, _], _ => rfl
  have b21 := F21.binds (ps := ["self", "many"]) fun _ _ _ _ _ _ us hl => match us, hl with | [_, _], _ => rfl
  have T : Txt K mg C := ⟨⟨pgC, hdC, poC, saC⟩, nC_lines, nC_rows, PySem.W.mg_of X G aC⟩
  have NT : TooL K mg CT f21 _ := ⟨PySem.W.mg_of X G aCT, ⟨⟨nm_CT, q_CT, N_CT, bs_CT, bm_CT, sn_CT, sub_CT, ab_CT, col_CT, dd_CT, m0_CT, m1_CT, m2_CT, m3_CT, m5_CT, x_CT, xb_CT⟩, sa_CT, xe_CT, xt_CT, xk_CT⟩, f_CT_many, a21, t21, F21, b21⟩
  have NJ : BadJ K mg CJ f20 _ := ⟨PySem.W.mg_of X G aCJ, ⟨⟨nm_CJ, q_CJ, N_CJ, bs_CJ, bm_CJ, sn_CJ, sub_CJ, ab_CJ, col_CJ, dd_CJ, m0_CJ, m1_CJ, m2_CJ, m3_CJ, m5_CJ, x_CJ, xb_CJ⟩, sa_CJ, xe_CJ, xt_CJ, xk_CJ⟩, f_CJ_text, a20, t20, F20, b20⟩
  have ER : Errs K mg CT CJ CL := ⟨PySem.W.mg_of X G aCL, ⟨hg_CT, hk_CT, xe_CT, hd_CT, ha_CT, hn_CT, ht_CT, hm_CT⟩, ⟨hg_CJ, hk_CJ, xe_CJ, hd_CJ, ha_CJ, hn_CJ, ht_CJ, hm_CJ⟩, PySem.W.exm_ref xe_CT hd_CT xt_CT ls_CT, PySem.W.exm_ref xe_CT hd_CT xt_CT s_jt, PySem.W.exm_ref xe_CJ hd_CJ xt_CJ ls_CJ, PySem.W.exm_ref l_xe l_hd l_xt l_t, PySem.W.exm_ref l_xe l_hd l_xt l_j, k1_CT, k2_CT, k3_CJ⟩
  exact ⟨PySem.W.fnOf "law" "law" (defArgs sLaw) (defBody sLaw) (defScope sLaw) .none kV16 dc16 pm16 an16 cd16 ct16, fun s v => .of_eq rfl, fun base _ _ =>
    ok_law B Z T ⟨mkC, a17, i17, kcC⟩ NT NJ ER F16 F1 b1 (PySem.W.mg_of X G a1) F2 b2 (PySem.W.mg_of X G a2) F3 b3 (PySem.W.mg_of X G a3) F4 b4 (PySem.W.mg_of X G a4) F5 b5 (PySem.W.mg_of X G a5) F6 b6 (PySem.W.mg_of X G a6) F7 b7 (PySem.W.mg_of X G a7) F8 b8 (PySem.W.mg_of X G a8) F9 b9 (PySem.W.mg_of X G a9) F10 b10 (PySem.W.mg_of X G a10) F11 b11 (PySem.W.mg_of X G a11) F12 b12 (PySem.W.mg_of X G a12) F13 b13 (PySem.W.mg_of X G a13) F14 b14 (PySem.W.mg_of X G a14) F15 b15 (PySem.W.mg_of X G a15) F17 b17 F18 b18 ⟨a18, x18⟩ F19 b19 ⟨a19, i19⟩⟩
end K28
open PySem PySem.W PyProof.Rows
set_option maxRecDepth 100000 in
set_option maxHeartbeats 0 in
theorem PySem.Challenge.cw_laidforall_k28_joint_rows_are_read_holds : PySem.Challenge.rw_laidforall_k28_joint_rows_are_read.Holds := by
  w_on; o_law; k_head; (case hw => w_witness2)
  k_fill
  refine L2.walk_of (l := PySem.Challenge.rw_laidforall_k28_joint_rows_are_read) (n := 63) (k := 8) (x := "_law_script") (CX := fun _ => L2.CX0) (sp := fun w => K28.spLaw _) rfl (by decide) rfl ⟨rfl, by decide, by decide⟩ (fun w h Y => PySem.W.kIn_of Y) ?F (fun _ _ a ns hl _ hS => ⟨a, ns, rfl, hS, hl, fun _ => rfl⟩) (fun _ _ _ _ _ h => h)
  case F =>
    intro w mg fa h KX G hmg
    refine' K28.all_mk KX G hmg ?zz_c_MOST_JOINT_ROWS ?zz_c_LONGEST_PART ?zz_c_ANY_LETTER ?zz_c_WORD_END ?zz_c_FORBIDS ?zz_aC ?zz_pgC ?zz_hdC ?zz_poC ?zz_saC ?zz_mkC ?zz_kcC ?zz_nC_lines ?zz_nC_rows ?zz_aCL ?zz_aCJ ?zz_x_CJ ?zz_xb_CJ ?zz_sa_CJ ?zz_xe_CJ ?zz_xt_CJ ?zz_xk_CJ ?zz_f_CJ_text ?zz_hg_CJ ?zz_hk_CJ ?zz_hd_CJ ?zz_ha_CJ ?zz_hn_CJ ?zz_ht_CJ ?zz_hm_CJ ?zz_ls_CJ ?zz_k3_CJ ?zz_aCT ?zz_x_CT ?zz_xb_CT ?zz_sa_CT ?zz_xe_CT ?zz_xt_CT ?zz_xk_CT ?zz_f_CT_many ?zz_hg_CT ?zz_hk_CT ?zz_hd_CT ?zz_ha_CT ?zz_hn_CT ?zz_ht_CT ?zz_hm_CT ?zz_ls_CT ?zz_k1_CT ?zz_k2_CT ?zz_s_jt ?zz_l_xe ?zz_l_hd ?zz_l_xt ?zz_l_t ?zz_l_j ?zz_a1 ?zz_l1 ?zz_c1 ?zz_k1 ?zz_a2 ?zz_l2 ?zz_c2 ?zz_k2 ?zz_a3 ?zz_l3 ?zz_c3 ?zz_k3 ?zz_a4 ?zz_l4 ?zz_c4 ?zz_k4 ?zz_a5 ?zz_l5 ?zz_c5 ?zz_k5 ?zz_a6 ?zz_l6 ?zz_c6 ?zz_k6 ?zz_a7 ?zz_l7 ?zz_c7 ?zz_k7 ?zz_a8 ?zz_l8 ?zz_c8 ?zz_k8 ?zz_a9 ?zz_l9 ?zz_c9 ?zz_k9 ?zz_a10 ?zz_l10 ?zz_c10 ?zz_k10 ?zz_a11 ?zz_l11 ?zz_c11 ?zz_k11 ?zz_a12 ?zz_l12 ?zz_c12 ?zz_k12 ?zz_a13 ?zz_l13 ?zz_c13 ?zz_k13 ?zz_a14 ?zz_l14 ?zz_c14 ?zz_k14 ?zz_a15 ?zz_l15 ?zz_c15 ?zz_k15 ?zz_a16 ?zz_l16 ?zz_c16 ?zz_k16 ?zz_a17 ?zz_i17 ?zz_l17 ?zz_c17 ?zz_k17 ?zz_a18 ?zz_i18 ?zz_x18 ?zz_l18 ?zz_c18 ?zz_k18 ?zz_a19 ?zz_i19 ?zz_l19 ?zz_c19 ?zz_k19 ?zz_a20 ?zz_l20 ?zz_c20 ?zz_k20 ?zz_t20 ?zz_a21 ?zz_l21 ?zz_c21 ?zz_k21 ?zz_t21 ?zz_z0 ?zz_z1 ?zz_z2 ?zz_z3 ?zz_z4 ?zz_z5 ?zz_z6 ?zz_z7 ?zz_z8 ?zz_z9 ?zz_z10 ?zz_z11 ?zz_z12 ?zz_z13
    (case zz_c_MOST_JOINT_ROWS => first | k_is | rfl)
    (case zz_c_LONGEST_PART => first | k_is | rfl)
    (case zz_c_ANY_LETTER => first | k_is | rfl)
    (case zz_c_WORD_END => first | k_is | rfl)
    (case zz_c_FORBIDS => first | k_is | rfl)
    (case zz_aC => first | k_is | rfl)
    (case zz_pgC => first | k_is | rfl)
    (case zz_hdC => first | k_is | rfl)
    (case zz_poC => first | k_is | rfl)
    (case zz_saC => first | k_is | rfl)
    (case zz_mkC => first | k_is | rfl)
    (case zz_kcC => first | k_is | rfl)
    (case zz_nC_lines => first | k_is | rfl)
    (case zz_nC_rows => first | k_is | rfl)
    (case zz_aCL => first | k_is | rfl)
    (case zz_aCJ => first | k_is | rfl)
    (case zz_x_CJ => first | k_is | rfl)
    (case zz_xb_CJ => decide +kernel)
    (case zz_sa_CJ => first | k_is | rfl)
    (case zz_xe_CJ => first | k_is | rfl)
    (case zz_xt_CJ => first | k_is | rfl)
    (case zz_xk_CJ => first | k_is | rfl)
    (case zz_f_CJ_text => first | k_is | rfl)
    (case zz_hg_CJ => first | k_is | rfl)
    (case zz_hk_CJ => first | k_is | rfl)
    (case zz_hd_CJ => first | k_is | rfl)
    (case zz_ha_CJ => first | k_is | rfl)
    (case zz_hn_CJ => first | k_is | rfl)
    (case zz_ht_CJ => first | k_is | rfl)
    (case zz_hm_CJ => first | k_is | rfl)
    (case zz_ls_CJ => first | k_is | rfl)
    (case zz_k3_CJ => first | k_is | rfl)
    (case zz_aCT => first | k_is | rfl)
    (case zz_x_CT => first | k_is | rfl)
    (case zz_xb_CT => decide +kernel)
    (case zz_sa_CT => first | k_is | rfl)
    (case zz_xe_CT => first | k_is | rfl)
    (case zz_xt_CT => first | k_is | rfl)
    (case zz_xk_CT => first | k_is | rfl)
    (case zz_f_CT_many => first | k_is | rfl)
    (case zz_hg_CT => first | k_is | rfl)
    (case zz_hk_CT => first | k_is | rfl)
    (case zz_hd_CT => first | k_is | rfl)
    (case zz_ha_CT => first | k_is | rfl)
    (case zz_hn_CT => first | k_is | rfl)
    (case zz_ht_CT => first | k_is | rfl)
    (case zz_hm_CT => first | k_is | rfl)
    (case zz_ls_CT => first | k_is | rfl)
    (case zz_k1_CT => first | k_is | rfl)
    (case zz_k2_CT => first | k_is | rfl)
    (case zz_s_jt => first | k_is | rfl)
    (case zz_l_xe => first | k_is | rfl)
    (case zz_l_hd => first | k_is | rfl)
    (case zz_l_xt => first | k_is | rfl)
    (case zz_l_t => first | k_is | rfl)
    (case zz_l_j => first | k_is | rfl)
    (case zz_a1 => first | k_is | rfl)
    (case zz_l1 => first | k_is | rfl)
    (case zz_c1 => first | k_is | rfl)
    (case zz_k1 => first | k_is | rfl)
    (case zz_a2 => first | k_is | rfl)
    (case zz_l2 => first | k_is | rfl)
    (case zz_c2 => first | k_is | rfl)
    (case zz_k2 => first | k_is | rfl)
    (case zz_a3 => first | k_is | rfl)
    (case zz_l3 => first | k_is | rfl)
    (case zz_c3 => first | k_is | rfl)
    (case zz_k3 => first | k_is | rfl)
    (case zz_a4 => first | k_is | rfl)
    (case zz_l4 => first | k_is | rfl)
    (case zz_c4 => first | k_is | rfl)
    (case zz_k4 => first | k_is | rfl)
    (case zz_a5 => first | k_is | rfl)
    (case zz_l5 => first | k_is | rfl)
    (case zz_c5 => first | k_is | rfl)
    (case zz_k5 => first | k_is | rfl)
    (case zz_a6 => first | k_is | rfl)
    (case zz_l6 => first | k_is | rfl)
    (case zz_c6 => first | k_is | rfl)
    (case zz_k6 => first | k_is | rfl)
    (case zz_a7 => first | k_is | rfl)
    (case zz_l7 => first | k_is | rfl)
    (case zz_c7 => first | k_is | rfl)
    (case zz_k7 => first | k_is | rfl)
    (case zz_a8 => first | k_is | rfl)
    (case zz_l8 => first | k_is | rfl)
    (case zz_c8 => first | k_is | rfl)
    (case zz_k8 => first | k_is | rfl)
    (case zz_a9 => first | k_is | rfl)
    (case zz_l9 => first | k_is | rfl)
    (case zz_c9 => first | k_is | rfl)
    (case zz_k9 => first | k_is | rfl)
    (case zz_a10 => first | k_is | rfl)
    (case zz_l10 => first | k_is | rfl)
    (case zz_c10 => first | k_is | rfl)
    (case zz_k10 => first | k_is | rfl)
    (case zz_a11 => first | k_is | rfl)
    (case zz_l11 => first | k_is | rfl)
    (case zz_c11 => first | k_is | rfl)
    (case zz_k11 => first | k_is | rfl)
    (case zz_a12 => first | k_is | rfl)
    (case zz_l12 => first | k_is | rfl)
    (case zz_c12 => first | k_is | rfl)
    (case zz_k12 => first | k_is | rfl)
    (case zz_a13 => first | k_is | rfl)
    (case zz_l13 => first | k_is | rfl)
    (case zz_c13 => first | k_is | rfl)
    (case zz_k13 => first | k_is | rfl)
    (case zz_a14 => first | k_is | rfl)
    (case zz_l14 => first | k_is | rfl)
    (case zz_c14 => first | k_is | rfl)
    (case zz_k14 => first | k_is | rfl)
    (case zz_a15 => first | k_is | rfl)
    (case zz_l15 => first | k_is | rfl)
    (case zz_c15 => first | k_is | rfl)
    (case zz_k15 => first | k_is | rfl)
    (case zz_a16 => first | k_is | rfl)
    (case zz_l16 => first | k_is | rfl)
    (case zz_c16 => first | k_is | rfl)
    (case zz_k16 => first | k_is | rfl)
    (case zz_a17 => first | k_is | rfl)
    (case zz_i17 => first | k_is | rfl)
    (case zz_l17 => first | k_is | rfl)
    (case zz_c17 => first | k_is | rfl)
    (case zz_k17 => first | k_is | rfl)
    (case zz_a18 => first | k_is | rfl)
    (case zz_i18 => first | k_is | rfl)
    (case zz_x18 => first | k_is | rfl)
    (case zz_l18 => first | k_is | rfl)
    (case zz_c18 => first | k_is | rfl)
    (case zz_k18 => first | k_is | rfl)
    (case zz_a19 => first | k_is | rfl)
    (case zz_i19 => first | k_is | rfl)
    (case zz_l19 => first | k_is | rfl)
    (case zz_c19 => first | k_is | rfl)
    (case zz_k19 => first | k_is | rfl)
    (case zz_a20 => first | k_is | rfl)
    (case zz_l20 => first | k_is | rfl)
    (case zz_c20 => first | k_is | rfl)
    (case zz_k20 => first | k_is | rfl)
    (case zz_t20 => first | k_is | rfl)
    (case zz_a21 => first | k_is | rfl)
    (case zz_l21 => first | k_is | rfl)
    (case zz_c21 => first | k_is | rfl)
    (case zz_k21 => first | k_is | rfl)
    (case zz_t21 => first | k_is | rfl)
    (case zz_z0 => first | k_is | rfl)
    (case zz_z1 => first | k_is | rfl)
    (case zz_z2 => first | k_is | rfl)
    (case zz_z3 => first | k_is | rfl)
    (case zz_z4 => first | k_is | rfl)
    (case zz_z5 => first | k_is | rfl)
    (case zz_z6 => first | k_is | rfl)
    (case zz_z7 => first | k_is | rfl)
    (case zz_z8 => first | k_is | rfl)
    (case zz_z9 => first | k_is | rfl)
    (case zz_z10 => first | k_is | rfl)
    (case zz_z11 => first | k_is | rfl)
    (case zz_z12 => first | k_is | rfl)
    (case zz_z13 => first | k_is | rfl)

