import PyProof.Rows.All
import Wide.All
import OpenK.AllK
import Wide.FinOn
import HandS.Zip
import HandS.Style
import HandS.ListItems
import KE.GoesMore
import KE.GoesZip
import HandS.ForMost
import HandS.OwnIter
import HandS.IterNext
import HandS.IterVal
import HandS.Comp
import HandS.Walk
import HandS.Dict
import HandS.NoneIn
import HandS.Small
import KE.KIsAll
import KE.KTryMore
import HandS.ForExc
import HandS.ExcInit
import HandS.ExcIs
import HandS.ExcField
import HandS.IsInst
import HandS.TupAny
import HandS.Evl
import HandS.Words
import HandS.FStr
import HandS.Text
import HandS.StrMore
import HandS.More
import HandS.Deep
import HandS.Codes
import HandS.Star
import PySem.Challenge.RW_laidforall_k31_idle_joints
set_option Elab.async false
set_option linter.all false
set_option maxRecDepth 100000
set_option maxHeartbeats 2000000
namespace RJ
open PySem PySem.Spec PyProof.Rows L2
/-! ### enumerate(text) -/
def IteS (x : Str) : It :=
  ⟨fun i H => i < x.cps.size, fun i H v H' => ∃ T c, v = .ref T ∧ H T = none ∧ H' = upd H T (.tup [.int (i : Nat), .str ⟨#[c]⟩]) ∧ x.cps[i]? = some c, fun i H => i = x.cps.size⟩
theorem turn_enumS {P : Program} {w : World} {K : PySem.W.Frag} {elts : List Expr} {kk : Nat} {tpos : Pos} (x : Str) (t : Tok) (e it : Addr) :
    Turn P w K (.Tuple elts kk tpos) (IteS x) [e, it] e (fun i h => (∃ old, IsEnum h e it ((i : Nat) : Int) old) ∧ h.IsStrIter it (strIterType x) x t i ∧ e ≠ it) where
  mem := by simp
  obj := fun i h st b hb => by
    obtain ⟨⟨old, he⟩, ⟨o, ho, hc, hd⟩, _⟩ := st
    have eb : b = e ∨ b = it := by simpa using hb
    rcases eb with y | y <;> rw [y]
    · exact ⟨_, he, fun v q => nomatch q⟩
    · exact ⟨o, ho, fun v q => by rw [hd] at q; cases q⟩
  keep := fun i h h' st k => let ⟨⟨old, he⟩, ⟨o, ho, r⟩, ne⟩ := st; ⟨⟨old, k e (by simp) _ he⟩, ⟨o, k it (by simp) o ho, r⟩, ne⟩
  item := by
    intro X hP hw hK hc i pins s σ H E I hf st hg
    subst hP hw hK
    obtain ⟨⟨old, he⟩, hit, ne⟩ := st
    have hel : e < s.heap.objs.size := Heap.lt_size he
    have hil : it < s.heap.objs.size := by obtain ⟨_, q, _⟩ := hit; exact Heap.lt_size q
    have hd0 : X.A.in1.handled = none := I.ok.hd hc
    refine wpAny_pyNext_enum_itemD (Draws.text hd0 it x t) he hit hg ne (by simp [ne]) fun u' h' tk hP2 ho st2 hT hsz hk => ?_
    obtain ⟨c, u, hx, rfl⟩ := hP2
    refine ⟨_, rfl, wpAny_letOwnedTupleGo_enum (s := { s with heap := h', toks := tk + 1 }) ho fun h'' he' sb => ?_⟩
    have hT2 : h''.get? s.heap.objs.size = some { cls := .type "tuple", data := .seq #[.int i tk, .str ⟨#[c]⟩ u] } := (sb.2 _ (Nat.ne_of_gt hel)).trans hT
    have new : ObjOk X.prog X.w (upd H s.heap.objs.size (.tup [.int (i : Nat), .str ⟨#[c]⟩])) h'' s.heap.objs.size (.tup [.int (i : Nat), .str ⟨#[c]⟩]) := ⟨by show 2 ≤ sizeLine; decide, [.int i tk, .str ⟨#[c]⟩ u], .cons ⟨_, rfl⟩ (.cons ⟨_, rfl⟩ .nil), ⟨_, hT2, rfl, _, rfl⟩⟩
    have I1 : Inv X pins σ (upd H s.heap.objs.size (.tup [.int (i : Nat), .str ⟨#[c]⟩])) { s with heap := h'', toks := tk + 1 } :=
      I.turnedNew (ch := [e, it]) (fun b ob hb q => (sb.2 b (fun z => hb (by simp [z]))).trans (hk b ob (fun z => hb (by simp [z])) (fun z => hb (by simp [z])) q)) hf (Nat.le_refl _) new
    refine ⟨.ref s.heap.objs.size, _, I1, rfl, ⟨_, c, rfl, I.hok.fresh (Nat.le_refl _), rfl, hx⟩, ⟨⟨.str ⟨#[c]⟩ u, ?_⟩, ?_, ne⟩, fun b hb => ?_⟩
    · rw [show ((i + 1 : Nat) : Int) = (i : Int) + 1 by omega]; exact he'
    · obtain ⟨o, q, r⟩ := st2
      exact ⟨o, (sb.2 it (Ne.symm ne)).trans q, r⟩
    · have eb : b = e ∨ b = it := by simpa using hb
      have hb' : b < s.heap.objs.size := by rcases eb with y | y <;> rw [y] <;> assumption
      rw [upd_ne (Nat.ne_of_lt hb')]; exact (hf b hb).1
  done := by
    intro X hP hw hK hc i pins s σ H E I hf st hg
    subst hP hw hK
    obtain ⟨⟨old, he⟩, hit, ne⟩ := st
    obtain ⟨f0, f1, f2, f3, f4, f5⟩ := hf it (by simp)
    have hd0 : X.A.in1.handled = none := I.ok.hd hc
    have hi : i = x.cps.size := hg
    refine wpAny_pyNext_enum_endD (Draws.text hd0 it x t) he (by rw [← hi]; exact hit) fun h' eb => ?_
    exact ⟨rfl, I.turned (t' := s.toks) (fun b o hb q => eb b o hb q) f0 f1 f3 f4 f5⟩
  self := fun A i s Q E st h => let ⟨⟨_, he⟩, _⟩ := st; wpAny_pyIter_enum he h
def iEnumS (ta : TA) : TI := fun σ H R => ta σ H fun vs H1 => ∃ x, vs = [.str x] ∧ R (IteS x) H1
theorem pi_enumS {X : Cx} {e : Expr} {ta : TA} {p pos tpos : Pos} {elts : List Expr} {kk : Nat} (hg : Gl X "enumerate") (hm : X.mg "enumerate" = none) (ha : PA X [e] ta) (hs : starEach [e] X.env = [(false, eval e X.env)] := by rfl) :
    PI X (.Tuple elts kk tpos) (.Call (.Name "enumerate" p) [e] [] pos) (iEnumS ta) := by
  refine ⟨fun pins s σ H R I h => Call_ (ld_blt I hg hm boot_enumerate (PyProof.Rows.callWith_type1 (thn (ha.run pos pins s σ H _ I h) fun us s1 ⟨vs, H1, I1, r1, q1⟩ => ?_) hs rfl))⟩
  obtain ⟨x, rfl, q⟩ := q1
  cases r1 with
  | cons r rr =>
    cases rr; obtain ⟨t, rfl⟩ := r
    refine call_enumerate_str fun h' he hit hsz hk => wpAny_pyIter_enum he ?_
    have I2 : Inv X pins σ H1 { s1 with heap := h' } := I1.kept (t' := s1.toks) hk
    refine ⟨s1.heap.objs.size + 1, [s1.heap.objs.size + 1, s1.heap.objs.size], _, _, H1, rfl, I2, turn_enumS x t (s1.heap.objs.size + 1) s1.heap.objs.size, ⟨⟨.none, he⟩, hit, Nat.succ_ne_self _⟩, fun b hb => ?_, q⟩
    have hle : s1.heap.objs.size ≤ b := by
      have eb : b = s1.heap.objs.size + 1 ∨ b = s1.heap.objs.size := by simpa using hb
      rcases eb with y | y <;> rw [y]
      · exact Nat.le_add_right _ _
      · exact Nat.le_refl _
    exact I1.fpOk hle (I1.hok.fresh hle)
theorem for_enumS {x : Str} {g : TG} {tb : TS} {D : Ends} {σ : L2.St} {H : Hp} (Pv : Nat → L2.St → Hp → Prop) (h0 : Pv 0 σ H)
    (hs : ∀ (i c : Nat) (T : Addr) (σ : L2.St) (H : Hp), x.cps[i]? = some c → Pv i σ H → H T = none → g (.ref T) σ (upd H T (.tup [.int (i : Nat), .str ⟨#[c]⟩])) fun σ2 H2 => tb { D with nx := Pv (i + 1), ct := Pv (i + 1), bk := D.nx } σ2 H2) (hd : ∀ σ H, Pv x.cps.size σ H → D.nx σ H) :
    ∃ W : Nat → Nat → L2.St → Hp → Prop, (∃ m, W 0 m σ H) ∧ ∀ i m σ H, W i m σ H →
      ((IteS x).stop i H ∧ D.nx σ H) ∨ ((IteS x).go i H ∧ ∃ N : L2.St → Hp → Prop, (∀ σ' H', N σ' H' → ∃ m', m' < m ∧ W (i + 1) m' σ' H') ∧ ∀ v H', (IteS x).yld i H v H' → g v σ H' fun σ2 H2 => tb { D with nx := N, ct := N, bk := D.nx } σ2 H2) := by
  refine ⟨fun i m σ H => m = x.cps.size - i ∧ i ≤ x.cps.size ∧ Pv i σ H, ⟨x.cps.size, rfl, Nat.zero_le _, h0⟩, fun i m σ H => ?_⟩
  rintro ⟨rfl, hi, p⟩
  by_cases hlt : i < x.cps.size
  · refine .inr ⟨hlt, Pv (i + 1), fun σ' H' p' => ⟨x.cps.size - (i + 1), by omega, rfl, hlt, p'⟩, fun v H' y => ?_⟩
    obtain ⟨T, c, rfl, hT, rfl, f1⟩ := y
    exact hs i c T σ H f1 p hT
  · obtain rfl : i = x.cps.size := by omega
    exact .inl ⟨rfl, hd σ H p⟩
/-! ### zip(text, text) -/
def ItzS (x y : Str) : It :=
  ⟨fun i H => i < x.cps.size ∧ i < y.cps.size, fun i H v H' => ∃ T c d, v = .ref T ∧ H T = none ∧ H' = upd H T (.tup [.str ⟨#[c]⟩, .str ⟨#[d]⟩]) ∧ x.cps[i]? = some c ∧ y.cps[i]? = some d,
    fun i H => i ≤ x.cps.size ∧ i ≤ y.cps.size ∧ (i = x.cps.size ∨ i = y.cps.size)⟩
theorem turn_zipS {P : Program} {w : World} {K : PySem.W.Frag} {elts : List Expr} {kk : Nat} {tpos : Pos} (x y : Str) (t1 t2 : Tok) {z TI TO i1 i2 : Addr} (S : ZipSep2 z TI TO i1 i2 [i1] [i2]) :
    Turn P w K (.Tuple elts kk tpos) (ItzS x y) [z, TI, TO, i1, i2] z (fun i h => IsZip h z TI TO .none ∧ IsTupOf2 h TI (.ref i1) (.ref i2) ∧ (∃ a b, IsTupOf2 h TO a b) ∧ h.IsStrIter i1 (strIterType x) x t1 i ∧ h.IsStrIter i2 (strIterType y) y t2 i) where
  mem := by simp
  obj := fun i h st c hc => by
    obtain ⟨hz, hTI, ⟨a, b, hTO⟩, ⟨o1, e1, _, d1⟩, ⟨o2, e2, _, d2⟩⟩ := st
    have e' : c = z ∨ c = TI ∨ c = TO ∨ c = i1 ∨ c = i2 := by simpa using hc
    rcases e' with q | q | q | q | q
    · rw [q]; exact ⟨_, hz, fun v q => nomatch q⟩
    · rw [q]; exact ⟨_, hTI, fun v q => nomatch q⟩
    · rw [q]; exact ⟨_, hTO, fun v q => nomatch q⟩
    · rw [q]; exact ⟨o1, e1, fun v q => by rw [d1] at q; cases q⟩
    · rw [q]; exact ⟨o2, e2, fun v q => by rw [d2] at q; cases q⟩
  keep := fun i h h' st k => by
    obtain ⟨hz, hTI, ⟨a, b, hTO⟩, ⟨o1, e1, r1⟩, ⟨o2, e2, r2⟩⟩ := st
    exact ⟨k z (by simp) _ hz, k TI (by simp) _ hTI, ⟨a, b, k TO (by simp) _ hTO⟩, ⟨o1, k i1 (by simp) o1 e1, r1⟩, ⟨o2, k i2 (by simp) o2 e2, r2⟩⟩
  item := by
    intro X hP hw hK hc i pins s σ H E I hf st hg
    subst hP hw hK
    obtain ⟨hz, hTI, ⟨a0, b0, hTO⟩, h1, h2⟩ := st
    obtain ⟨hlt1, hlt2⟩ := hg
    have hzl : z < s.heap.objs.size := Heap.lt_size hz
    have hd0 : X.A.in1.handled = none := I.ok.hd hc
    refine wpAny_pyNext_zipD2_item S (Draws.text hd0 i1 x t1) (Draws.text hd0 i2 y t2) hz hTI hTO h1 h2 hlt1 hlt2 fun x1 x2 h' tk p1 p2 z' TO' h1' h2' hT hsz hk => ?_
    obtain ⟨c, u, hx, rfl⟩ := p1
    obtain ⟨d, u2, hy, rfl⟩ := p2
    refine ⟨_, rfl, wpAny_letOwnedTupleGo_zip (s := { s with heap := h', toks := tk }) z' fun h'' z'' sb => ?_⟩
    have hT2 : h''.get? s.heap.objs.size = some { cls := .type "tuple", data := .seq #[.str ⟨#[c]⟩ u, .str ⟨#[d]⟩ u2] } := (sb.2 _ (Nat.ne_of_gt hzl)).trans hT
    have new : ObjOk X.prog X.w (upd H s.heap.objs.size (.tup [.str ⟨#[c]⟩, .str ⟨#[d]⟩])) h'' s.heap.objs.size (.tup [.str ⟨#[c]⟩, .str ⟨#[d]⟩]) :=
      ⟨by show 2 ≤ sizeLine; decide, [.str ⟨#[c]⟩ u, .str ⟨#[d]⟩ u2], .cons ⟨_, rfl⟩ (.cons ⟨_, rfl⟩ .nil), ⟨_, hT2, rfl, _, rfl⟩⟩
    have I1 : Inv X pins σ (upd H s.heap.objs.size (.tup [.str ⟨#[c]⟩, .str ⟨#[d]⟩])) { s with heap := h'', toks := tk } :=
      I.turnedNew (ch := [z, TI, TO, i1, i2]) (fun c o hb q => (sb.2 c (fun q' => hb (by simp [q']))).trans (hk c o (fun q' => hb (by simp [q'])) (fun q' => hb (by simp [q'])) (fun q' => hb (by simp [q'])) (fun q' => hb (by simp [q'])) q)) hf (Nat.le_refl _) new
    refine ⟨.ref s.heap.objs.size, _, I1, rfl, ⟨_, c, d, rfl, I.hok.fresh (Nat.le_refl _), rfl, hx, hy⟩, ⟨z'', ?_, ⟨.str ⟨#[c]⟩ u, .str ⟨#[d]⟩ u2, ?_⟩, ?_, ?_⟩, fun c hcm => ?_⟩
    · exact (sb.2 _ S.TIz).trans (hk _ _ S.TIz S.TITO S.TIi1 S.TIi2 hTI)
    · exact (sb.2 _ S.TOz).trans TO'
    · obtain ⟨o, q, r⟩ := h1'
      exact ⟨o, (sb.2 _ (Ne.symm S.zi1)).trans q, r⟩
    · obtain ⟨o, q, r⟩ := h2'
      exact ⟨o, (sb.2 _ (Ne.symm S.zi2)).trans q, r⟩
    · have hlt : c < s.heap.objs.size := by
        have e' : c = z ∨ c = TI ∨ c = TO ∨ c = i1 ∨ c = i2 := by simpa using hcm
        rcases e' with q | q | q | q | q
        · rw [q]; exact hzl
        · rw [q]; exact Heap.lt_size hTI
        · rw [q]; exact Heap.lt_size hTO
        · rw [q]; obtain ⟨_, e1, _⟩ := h1; exact Heap.lt_size e1
        · rw [q]; obtain ⟨_, e2, _⟩ := h2; exact Heap.lt_size e2
      rw [upd_ne (Nat.ne_of_lt hlt)]
      exact (hf c hcm).1
  done := by
    intro X hP hw hK hc i pins s σ H E I hf st hg
    subst hP hw hK
    obtain ⟨hz, hTI, ⟨a0, b0, hTO⟩, h1, h2⟩ := st
    obtain ⟨l1, l2, hend⟩ := hg
    have hd0 : X.A.in1.handled = none := I.ok.hd hc
    exact wpAny_pyNext_zipD2_end S (Draws.text hd0 i1 x t1) (Draws.text hd0 i2 y t2) hz hTI hTO h1 h2 l1 l2 hend fun h' tk hk => ⟨rfl, I.turnedL (t' := tk) (ch := [z, TI, TO, i1, i2]) (fun c o hb q =>
      hk c o (fun q' => hb (by simp [q'])) (fun q' => hb (by simp [q'])) (fun q' => hb (by simp [q'])) (fun q' => hb (by simp [q'])) q) hf⟩
  self := fun A i s Q E st h => wpAny_pyIter_zip st.1 h
def iZipS (ta : TA) : TI := fun σ H R => ta σ H fun vs H1 => ∃ x y, vs = [.str x, .str y] ∧ R (ItzS x y) H1
theorem pi_zipS {X : Cx} {e e2 : Expr} {ta : TA} {p pos tpos : Pos} {elts : List Expr} {kk : Nat} (hg : Gl X "zip") (hm : X.mg "zip" = none) (ha : PA X [e, e2] ta)
    (hs : starEach [e, e2] X.env = (false, eval e X.env) :: starEach [e2] X.env := by rfl) (hpl : (backTo pos (starEach [e2] X.env)).any (·.1) = false := by rfl) :
    PI X (.Tuple elts kk tpos) (.Call (.Name "zip" p) [e, e2] [] pos) (iZipS ta) := by
  refine ⟨fun pins s σ H R I h => ?_⟩
  refine Call_ (ld_blt I hg hm PyProof.Rows.boot_zip (PyProof.Rows.callWith_type1 (thn (ha.run pos pins s σ H _ I h) fun us s1 ⟨vs, H1, I1, r1, q1⟩ => ?_) hs hpl))
  obtain ⟨x, y, rfl, q⟩ := q1
  cases r1 with
  | cons r rr =>
    cases rr with
    | cons r' rr =>
      cases rr
      obtain ⟨t1, rfl⟩ := r
      obtain ⟨t2, rfl⟩ := r'
      have fresh5 : ∀ c, c ∈ [s1.heap.objs.size + 4, s1.heap.objs.size + 2, s1.heap.objs.size + 3, s1.heap.objs.size, s1.heap.objs.size + 1] → FpOk X pins H1 c := fun c hcm => by
        have e' : c = s1.heap.objs.size + 4 ∨ c = s1.heap.objs.size + 2 ∨ c = s1.heap.objs.size + 3 ∨ c = s1.heap.objs.size ∨ c = s1.heap.objs.size + 1 := by simpa using hcm
        have hle : s1.heap.objs.size ≤ c := by
          rcases e' with z | z | z | z | z
          · rw [z]; exact Nat.le_add_right _ _
          · rw [z]; exact Nat.le_add_right _ _
          · rw [z]; exact Nat.le_add_right _ _
          · rw [z]; exact Nat.le_refl _
          · rw [z]; exact Nat.le_add_right _ _
        exact I1.fpOk hle (I1.hok.fresh hle)
      refine zip_begins2 (begins_text x t1) (begins_text y t2) trivial trivial fun h' hz hTI hTO g1 g2 hsz hk => wpAny_pyIter_zip hz ?_
      have I2 : Inv X pins σ H1 { s1 with heap := h' } := I1.kept (t' := s1.toks) hk
      refine ⟨s1.heap.objs.size + 4, [s1.heap.objs.size + 4, s1.heap.objs.size + 2, s1.heap.objs.size + 3, s1.heap.objs.size, s1.heap.objs.size + 1], _, _, H1, rfl, I2, turn_zipS x y t1 t2 ?_, ⟨hz, hTI, ⟨_, _, hTO⟩, ⟨_, g1, rfl, rfl⟩, ⟨_, g2, rfl, rfl⟩⟩, fresh5, q⟩
      constructor <;> simp
theorem for_zipS {x y : Str} {g : TG} {tb : TS} {D : Ends} {σ : L2.St} {H : Hp} (n : Nat) (hn : n = min x.cps.size y.cps.size) (Pv : Nat → L2.St → Hp → Prop) (h0 : Pv 0 σ H)
    (hs : ∀ (i c d : Nat) (T : Addr) (σ : L2.St) (H : Hp), i < n → x.cps[i]? = some c → y.cps[i]? = some d → Pv i σ H → H T = none → g (.ref T) σ (upd H T (.tup [.str ⟨#[c]⟩, .str ⟨#[d]⟩])) fun σ2 H2 => tb { D with nx := Pv (i + 1), ct := Pv (i + 1), bk := D.nx } σ2 H2) (hd : ∀ σ H, Pv n σ H → D.nx σ H) :
    ∃ W : Nat → Nat → L2.St → Hp → Prop, (∃ m, W 0 m σ H) ∧ ∀ i m σ H, W i m σ H →
      ((ItzS x y).stop i H ∧ D.nx σ H) ∨ ((ItzS x y).go i H ∧ ∃ N : L2.St → Hp → Prop, (∀ σ' H', N σ' H' → ∃ m', m' < m ∧ W (i + 1) m' σ' H') ∧ ∀ v H', (ItzS x y).yld i H v H' → g v σ H' fun σ2 H2 => tb { D with nx := N, ct := N, bk := D.nx } σ2 H2) := by
  refine ⟨fun i m σ H => m = n - i ∧ i ≤ n ∧ Pv i σ H, ⟨n, rfl, Nat.zero_le _, h0⟩, fun i m σ H => ?_⟩
  rintro ⟨rfl, hi, p⟩
  by_cases hlt : i < n
  · refine .inr ⟨⟨by omega, by omega⟩, Pv (i + 1), fun σ' H' p' => ⟨n - (i + 1), by omega, rfl, hlt, p'⟩, fun v H' y => ?_⟩
    obtain ⟨T, c, d, rfl, hT, rfl, f1, f2⟩ := y
    exact hs i c d T σ H hlt f1 f2 p hT
  · obtain rfl : i = n := by omega
    exact .inl ⟨⟨by omega, by omega, by omega⟩, hd σ H p⟩
theorem for_enumL {K : PySem.W.Frag} {a : Addr} {xs : List V} {g : TG} {tb : TS} {D : Ends} {σ : L2.St} {H : Hp} (Pv : Nat → L2.St → Hp → Prop) (h0 : Pv 0 σ H) (hq : ∀ i σ H, Pv i σ H → SqL K H a xs)
    (hs : ∀ (i : Nat) (x : V) (T : Addr) (σ : L2.St) (H : Hp), xs[i]? = some x → Pv i σ H → H T = none → g (.ref T) σ (upd H T (.tup [.int (i : Nat), x])) fun σ2 H2 => tb { D with nx := Pv (i + 1), ct := Pv (i + 1), bk := D.nx } σ2 H2) (hd : ∀ σ H, Pv xs.length σ H → D.nx σ H) :
    ∃ W : Nat → Nat → L2.St → Hp → Prop, (∃ m, W 0 m σ H) ∧ ∀ i m σ H, W i m σ H →
      ((Ite K a).stop i H ∧ D.nx σ H) ∨ ((Ite K a).go i H ∧ ∃ N : L2.St → Hp → Prop, (∀ σ' H', N σ' H' → ∃ m', m' < m ∧ W (i + 1) m' σ' H') ∧ ∀ v H', (Ite K a).yld i H v H' → g v σ H' fun σ2 H2 => tb { D with nx := N, ct := N, bk := D.nx } σ2 H2) := by
  refine ⟨fun i m σ H => m = xs.length - i ∧ i ≤ xs.length ∧ Pv i σ H, ⟨xs.length, rfl, Nat.zero_le _, h0⟩, fun i m σ H => ?_⟩
  rintro ⟨rfl, hi, p⟩
  have qx := hq i σ H p
  by_cases hlt : i < xs.length
  · refine .inr ⟨⟨xs, _, qx, List.getElem?_eq_getElem hlt⟩, Pv (i + 1), fun σ' H' p' => ⟨xs.length - (i + 1), by omega, rfl, hlt, p'⟩, fun v H' y => ?_⟩
    obtain ⟨T, x', rfl, hT, rfl, f1⟩ := y
    exact hs i x' T σ H (f1 xs qx) p hT
  · obtain rfl : i = xs.length := by omega
    exact .inl ⟨⟨xs, qx, Nat.le_refl _⟩, hd σ H p⟩
end RJ

set_option maxRecDepth 100000
set_option maxHeartbeats 2000000
namespace RO
open PySem PySem.Spec PyProof.Rows L2 ItX
/-! ### a def whose promise knows how large the heap was -/
structure FnN (P : Program) (w : World) (K : PySem.W.Frag) (mg : Str → Option Value) (base : Heap) (CX : CXT) (k : Nat) (f : Addr) (fd : FuncData) (ps : List Str) (sp : Nat → Sp) : Prop where
  len : ∀ n vs H Q E, sp n vs H Q E → vs.length = ps.length
  run : ∀ (A : Around) (outer : List Env) (s : Shared) (H : Hp) (args : Args) (us : List Value) (vs : List V) (Q : VK) (E : XK), Room k A → Env0 P w K mg base A outer s H → BindsTo s fd args (ps.zip us) → Vals vs us → sp s.heap.objs.size vs H Q E →
    codeAny (model P w) A (.call (.ref f) args) (CR CX outer P w H s Q E) s
theorem fn_ofN {CX : CXT} {P : Program} {w : World} {K : PySem.W.Frag} {mg : Str → Option Value} {base : Heap} {k : Nat} {f : Addr} {name qual : Str} {params : Arguments} {body : List Stmt} {scope : Scope} {dV kV doc pm cdv ct oc : Value} {an od : Option Addr}
    {osl : Array (Option Value)} {N ps : List Str} {sp : Nat → Sp} (lk : K.lookup f = some ⟨oc, od, .func (PySem.W.fnOf name qual params body scope dV kV doc pm an cdv ct), osl⟩) (hcd : PySem.W.codeIn K cdv qual = true) (S : FnScope N ps scope)
    (len : ∀ n vs H Q E, sp n vs H Q E → vs.length = ps.length)
    (hbody : ∀ (A : Around) (outer : List Env) (s : Shared) (H : Hp) (vs : List V) (Q : VK) (E : XK), Room k (A.deeper (envOfC qual scope s.heap.objs.size f cdv)) → sp s.heap.objs.size vs H Q E →
      ∃ t, PSs (cxOf CX P w K mg base N qual scope f cdv A outer s H E) body t ∧ t { nx := fun _ H' => Q .non H', rt := Q } (start N vs) H) :
    FnN P w K mg base CX (k + 1) f (PySem.W.fnOf name qual params body scope dV kV doc pm an cdv ct) ps sp := by
  refine ⟨len, fun A outer s H args us vs Q E hr e0 hb r hsp => ?_⟩
  have hl := len _ _ _ _ _ hsp
  have KX : K.In s.heap := e0.mod.kin.keeps fun b o e => (e0.bs b o e).1
  have lim : s.heap.NoLimit := e0.mod.nolimit.keeps fun b o e => (e0.bs b o e).1
  have hkind : ∀ y ∈ ps.zip us, scope.names.lookup y.1 = some .local ∨ (scope.names.lookup y.1 = some .cell ∧ ((cellsFrom (s.heap.objs.size + 1) scope.names []).lookup y.1).isSome = true) := fun ⟨n, v⟩ hy => by
    rcases S.par n (List.of_mem_zip hy).1 with q | q
    · exact .inl q
    · exact .inr ⟨q, PySem.W.cellsFrom_some _ _ _ (.inl q)⟩
  refine codeAny_call_function hr.depth (KX _ _ lk) rfl S.co S.gen rfl (PySem.W.codeRec_of KX hcd) (hb _ _ _ _ ?_)
  refine wpAny_newFunctionEnv_cells S.kind hkind fun env he s1 x => ?_
  subst he
  refine ⟨lim.keeps x.toInCall.keep, codeAny_func ?_⟩
  obtain ⟨t, ht, hq⟩ := hbody A outer s H vs Q E (hr.deeper _) hsp
  have I : Inv (cxOf CX P w K mg base N qual scope f cdv A outer s H E) [] (start N vs) H s1 := inv_start S hr.hd e0 hl r x
  refine wpAny_mono (ht.run [] s1 (start N vs) H _ I hq) (fun fl s' hs => ?_) fun e s' hs => hs
  have fin : ∀ {σ' : L2.St} {H' : Hp} {v : V} {u : Value}, Inv (cxOf CX P w K mg base N qual scope f cdv A outer s H E) [] σ' H' s' → RelV v u → Q v H' → CE outer P w H s Q u s' :=
    fun {σ' H' v u} J rv q => ⟨v, H', J.os, J.bare, J.base, J.hok, rv, q⟩
  cases fl with
  | ret u =>
    obtain ⟨v, σ', H', J, rv, q⟩ := hs
    exact fin J rv q
  | next =>
    obtain ⟨σ', H', J, q⟩ := hs
    exact fin (v := V.non) (u := Value.none) J rfl q
  | brk =>
    obtain ⟨_, _, _, q⟩ := hs
    exact False.elim q
  | cont =>
    obtain ⟨_, _, _, q⟩ := hs
    exact False.elim q
section
variable {P : Program} {w : World} {K : PySem.W.Frag} {mg : Str → Option Value} {base : Heap}
theorem fun_okN {x qual : Str} {st : Stmt} {f : Addr} {fd : FuncData} {N ps : List Str} {k : Nat} {sp : Nat → Sp} (F : Fun K x qual st f fd) (S : FnScope N ps (defScope st)) (len : ∀ n vs H Q E, sp n vs H Q E → vs.length = ps.length)
    (hbody : ∀ (cdv : Value) (A : Around) (outer : List Env) (s : Shared) (H : Hp) (vs : List V) (Q : VK) (E : XK), Room k (A.deeper (envOfC qual (defScope st) s.heap.objs.size f cdv)) → sp s.heap.objs.size vs H Q E →
      ∃ t, PSs (cxOf CX0 P w K mg base N qual (defScope st) f cdv A outer s H E).nox (defBody st) t ∧ t { nx := fun _ H' => Q .non H', rt := Q } (start N vs) H) : FnN P w K mg base CX0 (k + 1) f fd ps sp := by
  obtain ⟨oc, od, kV, doc, pm, an, cdv, ct, osl, rfl, lk, hcd⟩ := F.ex
  refine fn_ofN lk hcd S len fun A outer s H vs Q E hr hsp => ?_
  obtain ⟨t, h, q⟩ := hbody cdv A outer s H vs Q E hr hsp
  exact ⟨t, h.nox, q⟩
end
/-- __iter__ hands back a new iterator over the list in a field -/
def spIt (C : Addr) (fld : Str) (n : Nat) : Sp := fun vs H Q _ => ∃ (p dx l : Addr) (fs : List (Str × V)), vs = [.ref p] ∧ H p = some (.ins C dx fs) ∧ fs.lookup fld = some (.ref l) ∧ (∃ zs, H l = some (.lst zs)) ∧ ∀ it, H it = none → n ≤ it → Q (.ref it) (upd H it (ItO l it 0))
/-- what a class with such an __iter__ has -/
structure ItrC (X : Cx) (C fi : Addr) (fdI : FuncData) (fld : Str) (k : Nat) : Prop where
  it : PySem.W.findIn X.K (.ref C) "__iter__" = some (some (.ref fi))
  itF : PySem.W.isFn X.K (.ref fi) = true
  fn : FnN X.prog X.w X.K X.mg X.base CX0 k fi fdI ["self"] (spIt C fld)
  bi : Binds X.K fdI ["self"] []
section
variable {X : Cx} {pins : List (Addr × Obj)} {σ : L2.St} {H : Hp} {s : Shared} {A1 : Around} {C fi fl p dx l : Addr} {fdI fdL : FuncData} {fld : Str} {k : Nat} {fs : List (Str × V)} {zs : List V}
theorem env_sub (I : Inv X pins σ H s) (sb : Sub X k A1) : Env0 X.prog X.w X.K X.mg X.base A1 X.stack s H := by
  have e := I.env0
  exact ⟨by rw [sb.fr]; exact e.frames, e.mod, e.bs, e.bsz, e.funs, e.frf, e.hok, e.bare⟩
/-- iter(o) -/
theorem own_iter {Q : Value → Shared → Prop} (sb : Sub X k A1) (c : ItrC X C fi fdI fld k) (I : Inv X pins σ H s) (hp : H p = some (.ins C dx fs)) (hf : fs.lookup fld = some (.ref l)) (hl : H l = some (.lst zs))
    (h : ∀ it s', H it = none → s.heap.objs.size ≤ it → s'.heap.IsListIter it l 0 → s'.heap.get? it = some (GNX.itObj l 0) → Inv X pins σ H s' → Q (.ref it) s') : wpAny (model X.prog X.w) A1 (pyIter (.ref p)) Q X.xe s := by
  obtain ⟨mA, J, _⟩ := ins_get I.hok hp
  obtain ⟨od, J, _⟩ := J.look
  obtain ⟨m0, hF⟩ := I.fr
  refine PySem.W.owit_iter hF I.ok.mod.kin J c.it c.itF ?_
  have hsp : spIt C fld s.heap.objs.size [.ref p] H (fun v H' => ∃ it, v = .ref it ∧ H it = none ∧ s.heap.objs.size ≤ it ∧ H' = upd H it (ItO l it 0)) E0 := ⟨p, dx, l, fs, rfl, hp, hf, ⟨zs, hl⟩, fun it h1 h2 => ⟨it, rfl, h1, h2, rfl⟩⟩
  have r2 : Vals [V.ref p] [Value.ref p] := .cons rfl .nil
  refine wpAny_call (codeAny_mono (c.fn.run A1 X.stack s H ⟨[.ref p], []⟩ [.ref p] [.ref p] _ E0 sb.room (env_sub I sb) (by
    have := c.bi s [.ref p] I.kIn rfl
    simpa using this) r2 hsp) fun r s' hq => ?_)
  cases r with
  | error e => exact absurd hq (fun z => z.elim)
  | ok fl =>
    cases fl with
    | next => exact False.elim hq
    | brk => exact False.elim hq
    | cont => exact False.elim hq
    | ret u =>
      obtain ⟨v, H', I', rv, it, rfl, hn, hsz, rfl⟩ := I.after hq
      cases rv
      have eo := itO_get I' upd_same
      have I2 := inv_drop I' (show upd H it (ItO l it 0) it = some (.ext _) from upd_same)
      rw [dropH_upd hn] at I2
      have hT : s'.TypeIs (.ref it) "list_iterator" := ⟨_, eo, rfl⟩
      unfold PySem.W.OwitIt
      exact wpAny_specialOf (name := Str.ofString "__next__") hT slot_listiter_next.lookup (h it s' hn hsz ⟨_, eo, rfl, rfl⟩ eo I2)
/-- len(o) by an own __len__ that only tells -/
theorem own_len {Q : Value → Shared → Prop} {E' : Value → Shared → Prop} {sp : Sp} {m : Nat} (sb : Sub X k A1.in1) (hlen : PySem.W.findIn X.K (.ref C) "__len__" = some (some (.ref fl))) (hf : PySem.W.typeIn X.K (.ref fl) = some (.type "function")) (F : FnOk X.prog X.w X.K X.mg X.base CX0 k fl fdL ["self"] sp) (b : Binds X.K fdL ["self"] [])
    (I : Inv X pins σ H s) (hp : H p = some (.ins C dx fs)) (hm : m ≤ sizeLine) (hsp : sp [.ref p] H (fun v H' => v = .int (m : Int) ∧ H' = H) E0)
    (h : ∀ t s', Inv X pins σ H s' → Q (.int (m : Int) t) s') : wpAny (model X.prog X.w) A1 (call (.builtin "len") [.ref p]) Q E' s := by
  obtain ⟨mA, J, _⟩ := ins_get I.hok hp
  obtain ⟨od, J, _⟩ := J.look
  refine Calls.call_function_entry kind_len plain_len entry_len (args_len1 _) ?_
  unfold Builtin.«len»
  refine wpAny_bind (m := oneArg "len" _) (wpAny_pure ?_)
  have r2 : Vals [V.ref p] [Value.ref p] := .cons rfl .nil
  refine wpAny_bind (m := callSpecial? (.ref p) (PySem.Str.ofString "__len__")) (PySem.W.special_fn I.kIn J hlen hf ?_)
  refine wpAny_call (codeAny_mono (F.run A1.in1 X.stack s H ⟨[.ref p], []⟩ [.ref p] [.ref p] _ E0 sb.room (env_sub I sb) (by
    have := b s [.ref p] I.kIn rfl
    simpa using this) r2 hsp) fun r s' hq => ?_)
  cases r with
  | error e => exact absurd hq (fun z => z.elim)
  | ok fl =>
    cases fl with
    | next => exact False.elim hq
    | brk => exact False.elim hq
    | cont => exact False.elim hq
    | ret u =>
      obtain ⟨v, H', I', rv, rfl, rfl⟩ := I.after hq
      obtain ⟨t, rfl⟩ := rv
      have hs : sizeLine = 16777216 := sizeLine_eq
      refine wpAny_bind (wpAny_holding (wpAny_pure ?_))
      refine wpAny_bind (wpAny_letGo ?_)
      show wpAny _ _ (if ((m : Nat) : Int) < 0 then _ else _) _ _ _
      rw [if_neg (by omega)]
      show wpAny _ _ (if ((m : Nat) : Int) ≥ 2 ^ 63 then _ else _) _ _ _
      rw [if_neg (by omega)]
      exact wpAny_bind (wpAny_mkInt (wpAny_pure ⟨_, rfl, h _ _ (I'.tok _)⟩))
end
section
variable {X : Cx} {C fi fl : Addr} {fdI fdL : FuncData} {fld : Str} {k : Nat}
/-! ### for x in o -/
def iOwnL (C : Addr) (fld : Str) (K : PySem.W.Frag) (te : TE) : TI := fun σ H R => te σ H fun v H1 => ∃ (p dx l : Addr) (fs : List (Str × V)) (zs : List V), v = .ref p ∧ H1 p = some (.ins C dx fs) ∧ fs.lookup fld = some (.ref l) ∧ H1 l = some (.lst zs) ∧ R (Itl K l) H1
theorem pi_ownL {tg e : Expr} {te : TE} (c : ItrC X C fi fdI fld k) (hr : Room k X.A) (he : PE X e te) : PI X tg e (iOwnL C fld X.K te) := by
  refine ⟨fun pins s σ H R I h => ?_⟩
  refine thn (he.run pins s σ H _ I h) fun v s1 ⟨y, H1, I1, ry, p, dx, l, fs, zs, ey, hp, hf, hl, q⟩ => ?_
  subst ey
  cases ry
  refine own_iter (⟨hr, rfl⟩ : Sub X k X.A) c I1 hp hf hl fun it s' hn hsz hli eo I' => ?_
  exact ⟨it, [it], _, _, H1, rfl, I', turn_list l it, hli, fun b hb => by rw [List.mem_singleton.mp hb]; exact I1.fpOk hsz hn, q⟩
/-! ### len(o) -/
theorem call_lenOwn {sp : Sp} (hlen : PySem.W.findIn X.K (.ref C) "__len__" = some (some (.ref fl))) (hf : PySem.W.typeIn X.K (.ref fl) = some (.type "function")) (F : FnOk X.prog X.w X.K X.mg X.base CX0 k fl fdL ["self"] sp) (b : Binds X.K fdL ["self"] []) (hr : Room (k + 1) X.A) :
    CallR X (.builtin "len") (fun xs H Q => ∃ (p dx : Addr) (fs : List (Str × V)) (m : Nat), xs = [.ref p] ∧ H p = some (.ins C dx fs) ∧ m ≤ sizeLine ∧ sp [.ref p] H (fun v H' => v = .int (m : Int) ∧ H' = H) E0 ∧ Q (.int (m : Int)) H) := by
  intro pins s σ H xs us Q I r h
  obtain ⟨p, dx, fs, m, rfl, hp, hm, hsp, q⟩ := h
  obtain ⟨u, rfl, ru⟩ := vals1 r
  obtain rfl : u = Value.ref p := ru
  exact own_len (Sub.in1 (⟨hr, rfl⟩ : Sub X (k + 1) X.A)) hlen hf F b I hp hm hsp fun t s' I' => ⟨.int (m : Int), H, I', ⟨_, rfl⟩, q⟩
end
end RO

set_option maxRecDepth 100000
set_option maxHeartbeats 2000000
namespace RO
open PySem PySem.Spec PyProof.Rows L2 ItX
/-! ### list(o) -/
/-- what a class with an own __iter__ and __len__ has -/
structure LenC (X : Cx) (C fl : Addr) (fdL : FuncData) (sp : Sp) (k : Nat) : Prop where
  at_ : PySem.W.findIn X.K (.ref C) "__len__" = some (some (.ref fl))
  ty : PySem.W.typeIn X.K (.ref fl) = some (.type "function")
  fn : FnOk X.prog X.w X.K X.mg X.base CX0 k fl fdL ["self"] sp
  bi : Binds X.K fdL ["self"] []
section
variable {X : Cx} {pins : List (Addr × Obj)} {σ : L2.St} {H : Hp} {s : Shared} {A1 : Around} {C fi fl p dx l q it : Addr} {fdI fdL : FuncData} {fld : Str} {k : Nat} {fs : List (Str × V)} {zs : List V}
theorem ext_loop {Rs : Result → Shared → Prop} (hh : A1.in1.handled = none) (nql : l ≠ q) (hl : H l = some (.lst zs)) (hsz : zs.length < sizeLine) (hq0 : H q = some (.lst []))
    (hdone : ∀ s, Inv X pins σ (upd H q (.lst zs)) s → Rs (.ok (.ret .none)) s) :
    ∀ (n i : Nat) (s : Shared), n + i = zs.length → Inv X pins σ (upd H q (.lst (zs.take i))) s → s.heap.IsListIter it l i → FpOk X pins H it →
      codeAny (model X.prog X.w) A1 (.builtin "list.extend.loop" ⟨[.ref q, .ref it, .none], []⟩) Rs s := by
  intro n
  induction n with
  | zero =>
    intro i s hi I st fp
    refine codeAny_builtin PySem.F.entry_extend_loop ?_
    rw [Around.under_plainId PySem.F.plain_extend_loop _]
    show wpAny _ A1.in1 (pyNext (.ref it) >>= _) _ _ s
    have hl' : upd H q (.lst (zs.take i)) l = some (.lst zs) := by rw [upd_ne nql]; exact hl
    obtain ⟨its, rv, pl, _⟩ := I.list (SqL.of (K := X.K) hl')
    have hlen := rv.length
    obtain ⟨f0, f1, f2, f3, f4, f5⟩ := fp
    have niq : it ≠ q := fun e => by rw [e, hq0] at f0; cases f0
    have e1 : zs.take i = zs := List.take_of_length_le (by omega)
    refine wpAny_bind (wpAny_pyNext_list_end hh st pl.isList (by simp; omega) fun h' eb => ?_)
    rw [e1] at I
    have I' : Inv X pins σ (upd H q (.lst zs)) { s with heap := h' } := I.turned (t' := s.toks) (fun b o hb e => eb b o hb e) (by rw [upd_ne niq]; exact f0) f1 f3 f4 f5
    exact wpAny_pure (hdone _ I')
  | succ n ih =>
    intro i s hi I st fp
    refine codeAny_builtin PySem.F.entry_extend_loop ?_
    rw [Around.under_plainId PySem.F.plain_extend_loop _]
    show wpAny _ A1.in1 (pyNext (.ref it) >>= _) _ _ s
    have hl' : upd H q (.lst (zs.take i)) l = some (.lst zs) := by rw [upd_ne nql]; exact hl
    obtain ⟨its, rv, pl, _⟩ := I.list (SqL.of (K := X.K) hl')
    have hlen := rv.length
    obtain ⟨f0, f1, f2, f3, f4, f5⟩ := id fp
    have niq : it ≠ q := fun e => by rw [e, hq0] at f0; cases f0
    have hv : zs[i]? = some (zs[i]'(by omega)) := List.getElem?_eq_getElem _
    obtain ⟨u, hu, ru⟩ := rv.get hv
    refine wpAny_bind (wpAny_pyNext_list_item st pl.isList (x := u) (by simpa using hu) fun h' st' sb => ?_)
    have I1 : Inv X pins σ (upd H q (.lst (zs.take i))) { s with heap := h' } := I.turned (t' := s.toks) (fun b o hb e => (sb.2 b hb).trans e) (by rw [upd_ne niq]; exact f0) f1 f3 f4 f5
    show wpAny _ A1.in1 (updateSeq q (·.push u) >>= _) _ _ _
    obtain ⟨z, its2, kk, r2, hl2, e2⟩ := I1.lstM upd_same
    refine wpAny_bind (wpAny_updateSeq e2 rfl (wpAny_pure ⟨plainId_quiet PySem.F.plain_extend_loop _, ?_⟩) (by rw [List.size_toArray, ← hl2, List.length_take]; omega) (by show (its2.toArray.push u).size ≤ sizeLine + 1; rw [Array.size_push, List.size_toArray, ← hl2, List.length_take]; omega))
    have e3 : zs.take (i + 1) = zs.take i ++ [zs[i]'(by omega)] := by rw [List.take_add_one, hv]; rfl
    have I2 := I1.lset (f := (·.push u)) (its' := its2 ++ [u]) (ys := zs.take (i + 1)) (t' := s.toks) upd_same e2 (by simp) (by rw [e3]; exact r2.append (.cons ru .nil)) (by rw [List.length_take]; omega)
    rw [upd_upd] at I2
    refine ih (i + 1) _ (by omega) I2 (st'.at fun o e => ?_) fp
    exact (Heap.get?_update_other _ _ (Ne.symm niq)).trans e
theorem own_extendL {Rs : Result → Shared → Prop} {sp : Sp} {m : Nat} (sb : Sub X (k + 1) A1.in1) (hh : A1.in1.handled = none) (ci : ItrC X C fi fdI fld k) (cl : LenC X C fl fdL sp k) (I : Inv X pins σ H s) (hp : H p = some (.ins C dx fs)) (hf : fs.lookup fld = some (.ref l)) (hl : H l = some (.lst zs)) (hsz : zs.length < sizeLine)
    (hm : m ≤ sizeLine) (hsp : sp [.ref p] H (fun v H' => v = .int (m : Int) ∧ H' = H) E0) (hq : H q = some (.lst [])) (nql : l ≠ q) (hdone : ∀ s, Inv X pins σ (upd H q (.lst zs)) s → Rs (.ok (.ret .none)) s) (herr : ∀ e s, X.xe e s → Rs (.error e) s) :
    wpAny (model X.prog X.w) A1.in1 (Builtin.List.listExtendWith (.ref q) (.ref p) .none)
      (fun fin s' => match fin with | .done f => Rs (.ok f) s' | .again c' => c'.quiet = true ∧ codeAny (model X.prog X.w) A1 c' Rs s') (fun e s' => Rs (.error e) s') s := by
  have hne : q ≠ p := ne_of hq hp (fun z => nomatch z)
  obtain ⟨mA, J, _⟩ := ins_get I.hok hp
  obtain ⟨od, J, _⟩ := J.look
  unfold Builtin.List.listExtendWith
  refine wpAny_bind (J.type.here ?_)
  have h1 : Builtin.List.listSameRef (.ref q) (.ref p) = false := by simp [Builtin.List.listSameRef, hne]
  have h2 : (Value.ref C == Value.type "list") = false := rfl
  have h3 : (Value.ref C == Value.type "tuple") = false := rfl
  simp only [h1, h2, h3, Bool.or_false, Bool.false_eq_true, if_false]
  refine wpAny_bind (wpAny_mono (own_iter (Q := fun v s' => ∃ it, v = .ref it ∧ H it = none ∧ s.heap.objs.size ≤ it ∧ s'.heap.IsListIter it l 0 ∧ s'.heap.get? it = some (GNX.itObj l 0) ∧ Inv X pins σ H s') (sb.mono (Nat.le_succ k)) ci I hp hf hl fun it s' a b c e d => ⟨it, rfl, a, b, c, e, d⟩) (fun v s' hv => ?_) fun e s' he => herr e s' he)
  obtain ⟨it, rfl, hn, hge, st, eo, I'⟩ := hv
  have fp : FpOk X pins H it := I.fpOk hge hn
  have niq : it ≠ q := fun e => by rw [e, hq] at hn; cases hn
  have hint : wpAny (model X.prog X.w) A1.in1 (Builtin.List.listLengthHint (.ref p)) (fun b s2 => Inv X pins σ H s2 ∧ s2.heap.IsListIter it l 0) (fun e s' => Rs (.error e) s') s' := by
    obtain ⟨mA', J', _⟩ := ins_get I'.hok hp
    obtain ⟨od', J', _⟩ := J'.look
    have IP : Inv X ((it, GNX.itObj l 0) :: pins) σ H s' := I'.pins_of fun r hr => by
      rcases List.mem_cons.mp hr with e | hr
      · rw [e]
        exact ⟨eo, hn, fp.2.1, fp.2.2.1, fun v z => by cases z⟩
      · exact I'.pin r (List.mem_append_right _ hr)
    unfold Builtin.List.listLengthHint
    refine wpAny_bind (wpAny_bind (J'.type.here ((PySem.W.looks_findIn I'.kIn cl.at_).here ?_)))
    refine PySem.W.KFB.if_not rfl ?_
    refine PySem.W.KFB.if_so rfl ?_
    refine wpAny_bind (wpAny_rule ?_)
    refine wpAny_bind (wpAny_attempt ?_)
    refine wpAny_mono (own_len (Q := fun v s2 => ∃ t, v = .int (m : Int) t ∧ Inv X ((it, GNX.itObj l 0) :: pins) σ H s2) (E' := fun _ _ => False) (Sub.in1 sb) cl.at_ cl.ty cl.fn cl.bi IP hp hm hsp fun t s2 h => ⟨t, rfl, h⟩) (fun v s2 hv => ?_) (fun e s2 he => he.elim)
    obtain ⟨t, rfl, I2⟩ := hv
    refine wpAny_bind (m := asInt? (.int (m : Int) t)) (wpAny_pure ?_)
    refine PySem.W.KFB.if_not (notLongL (by rw [Int.toNat_natCast]; exact hm)) ?_
    have eo2 := (I2.pin (it, GNX.itObj l 0) (List.mem_append_right _ List.mem_cons_self)).1
    exact wpAny_pure ⟨I2.pins_of fun r hr => I2.pin r (List.mem_append_right _ (List.mem_cons_of_mem _ hr)), _, eo2, rfl, rfl⟩
  refine wpAny_bind (wpAny_holding (wpAny_mono hint (fun room s2 hr => ?_) fun _ _ z => z))
  obtain ⟨I2, st2⟩ := hr
  have hupd : upd H q (.lst (zs.take 0)) = H := by
    funext b
    by_cases hb : b = q
    · rw [hb, upd_same, hq]; rfl
    · rw [upd_ne hb]
  obtain ⟨z, its, k3, r3, hl3, e3⟩ := I2.lstM hq
  cases r3
  refine wpAny_ite_split (fun _ => ?_) (fun _ => wpAny_pure ⟨plainId_quiet PySem.F.plain_extend_loop _, ext_loop hh nql hl hsz hq hdone zs.length 0 s2 rfl (by rw [hupd]; exact I2) st2 fp⟩)
  refine wpAny_bind (wpAny_rule ?_)
  refine wpAny_bind ?_
  show wpAny _ _ (updateSeq q (·.push .none) >>= fun _ => updateSeq q (·.pop)) _ _ _
  refine wpAny_bind (wpAny_updateSeq e3 rfl ?_)
  have I4 := I2.lset (f := (·.push Value.none)) (its' := [Value.none]) (ys := [.non]) (t' := s2.toks) hq e3 (by simp) (.cons rfl .nil) (by rw [List.length_singleton, sizeLine_eq]; decide)
  obtain ⟨z4, its4, k4, r4, hl4, e4⟩ := I4.lstM upd_same
  obtain ⟨u4, rfl, ru4⟩ := r4.one
  refine wpAny_updateSeq e4 rfl ?_ (by show 1 ≤ sizeLine; rw [sizeLine_eq]; decide) (by show 0 ≤ sizeLine + 1; exact Nat.zero_le _)
  have I5 := I4.lset (f := (·.pop)) (its := [u4]) (its' := []) (ys := []) (t' := s2.toks) upd_same e4 (by rfl) .nil (Nat.zero_le _)
  rw [upd_upd] at I5
  refine wpAny_pure ⟨plainId_quiet PySem.F.plain_extend_loop _, ext_loop hh nql hl hsz hq hdone zs.length 0 _ rfl I5 ?_ fp⟩
  exact (st2.at fun o e => (Heap.get?_update_other _ _ (Ne.symm niq)).trans e).at fun o e => (Heap.get?_update_other _ _ (Ne.symm niq)).trans e
/-- list(o): a new list of what the list in the field holds -/
theorem call_listOwnL {sp : Sp} (ci : ItrC X C fi fdI fld k) (cl : LenC X C fl fdL sp k) (hc : X.calm = true) (hr : Room (k + 3) X.A) :
    CallR X (.type "list") (fun xs H Q => ∃ (p dx l : Addr) (fs : List (Str × V)) (zs : List V) (m : Nat), xs = [.ref p] ∧ H p = some (.ins C dx fs) ∧ fs.lookup fld = some (.ref l) ∧ H l = some (.lst zs) ∧ zs.length ≤ 1000 ∧ m ≤ sizeLine ∧
      (∀ H', Same H H' → sp [.ref p] H' (fun v H'' => v = .int (m : Int) ∧ H'' = H') E0) ∧ ∀ q, H q = none → Q (.ref q) (upd H q (.lst zs))) := by
  intro pins s σ H xs us Q I rv h
  obtain ⟨p, dx, l, fs, zs, m, rfl, hp, hf, hl, hz, hm, hsp, hq⟩ := h
  obtain ⟨u, rfl, ru⟩ := rv.one
  cases ru
  have sb : Sub X (k + 1) X.A.in1.in1 := (Sub.in1 (Sub.in1 (⟨hr, rfl⟩ : Sub X (k + 3) X.A)))
  refine callType_codes (Q₁ := fun obj s₁ => obj = .ref s.heap.objs.size ∧ s₁ = { s with heap := s.heap.push { cls := .type "list", data := .seq #[] } }) PySem.F.called_list (PySem.F.typeCall_list_1 _) PySem.F.entry_list_init
    (code_list_new _ ⟨rfl, rfl⟩) fun obj s₁ h₁ => ?_
  obtain ⟨rfl, rfl⟩ := h₁
  have hS : (s.heap.push { cls := .type "list", data := .seq #[] }).get? s.heap.objs.size = some { cls := .type "list", data := .seq #[] } := Heap.get?_push_size _ rfl
  refine ⟨⟨_, hS, rfl⟩, PySem.F.args_list_init_2 _ _, ?_⟩
  have fr : H s.heap.objs.size = none := I.hok.fresh (Nat.le_refl _)
  have hq' := hq _ fr
  have I1 : Inv X pins σ (upd H s.heap.objs.size (.lst [])) { s with heap := s.heap.push { cls := .type "list", data := .seq #[] } } := I.lnew (its := []) (t' := s.toks) .nil (Nat.zero_le _)
  show wpAny _ _ (do let old ← Builtin.List.listItems (.ref s.heap.objs.size); Builtin.List.listUpdate (.ref s.heap.objs.size) (fun _ => #[]); letGo old.toList.reverse; Builtin.List.listExtendWith (.ref s.heap.objs.size) (.ref p) .none) _ _ _
  refine wpAny_bind ?_
  unfold Builtin.List.listItems
  refine wpAny_bind (wpAny_seqItems hS rfl (wpAny_pure ?_))
  show wpAny _ _ (updateSeq s.heap.objs.size (fun _ => #[]) >>= fun _ => letGo (#[] : Array Value).toList.reverse >>= fun _ => Builtin.List.listExtendWith (.ref s.heap.objs.size) (.ref p) .none) _ _ _
  refine wpAny_bind (wpAny_updateSeq hS rfl ?_)
  have I2 := I1.lset (f := fun _ => #[]) (its := []) (its' := []) (ys := []) (t' := s.toks) upd_same hS rfl .nil (Nat.zero_le _)
  rw [upd_upd] at I2
  refine wpAny_bind (wpAny_letGo ?_)
  have sH : Same H (upd H s.heap.objs.size (.lst [])) := fun b x e => by rw [upd_ne (ne_of_none e fr)]; exact e
  have nql : l ≠ s.heap.objs.size := ne_of_none hl fr
  refine own_extendL (A1 := X.A.in1) (Rs := wants (fun r s₂ => r = .none ∧ EP X pins σ Q (.ref s.heap.objs.size) s₂) X.xe) sb (I.ok.hd hc) ci cl I2 (sH _ _ hp) hf (sH _ _ hl) (Nat.lt_of_le_of_lt hz (by decide)) hm (hsp _ sH) upd_same nql
    (fun s' I' => ⟨rfl, .ref s.heap.objs.size, _, I', rfl, by rw [upd_upd]; exact hq'⟩) (fun e s' he => he)
end
end RO

set_option maxRecDepth 100000
set_option maxHeartbeats 2000000
namespace R4
open PySem PySem.Spec PyProof.Rows L2
/-! ### comprehensions with two fors -/
section
variable {J J1 : It} {n n1 : Nat} {G G1 : Hp → Prop} {Y Y1 : Nat → Hp → V → Hp → Prop}
/-- the outer for: Pv by the turn and the heap (the new list at D within) -/
theorem lc2_out (w : Walk J n G Y) {g g1 : TG} {tt tt1 : TT} {wi1 : TI} {te : TE} {vs vs1 : List Nat} {σ : L2.St} {H1 : Hp} {D : Addr} {Qd : Hp → Prop} (Pv : Nat → Hp → Prop) (h0 : Pv 0 (upd H1 D (.lst []))) (hG : ∀ i H, i ≤ n → Pv i H → G H)
    (hs : ∀ i x H H', i < n → Pv i H → Y i H x H' → g x (wipe σ vs) H' fun σ2 H2 => wipe σ2 vs = wipe σ vs ∧ tt σ2 H2 fun b H3 =>
      if b = true then wi1 σ2 H3 fun J1 H4 => ∃ W1 : Nat → Nat → Hp → Prop, (∃ m, W1 0 m H4) ∧ ∀ j k H, W1 j k H →
        (J1.stop j H ∧ Pv (i + 1) H) ∨ (J1.go j H ∧ ∃ Nx1 : Hp → Prop, (∀ H', Nx1 H' → ∃ k', k' < k ∧ W1 (j + 1) k' H') ∧ ∀ x H', J1.yld j H x H' → g1 x (wipe σ2 vs1) H' fun σ3 H5 => wipe σ3 vs1 = wipe σ2 vs1 ∧ tt1 σ3 H5 fun b H6 =>
          if b = true then te σ3 H6 fun y H7 => ∃ acc, H7 D = some (.lst acc) ∧ acc.length < sizeLine ∧ Nx1 (upd H7 D (.lst (acc ++ [y]))) else Nx1 H6)
      else Pv (i + 1) H3) (hd : ∀ H, Pv n H → Qd H) :
    ∃ W : Nat → Nat → Hp → Prop, (∃ m, W 0 m (upd H1 D (.lst []))) ∧ ∀ i m H, W i m H →
      (J.stop i H ∧ Qd H) ∨ (J.go i H ∧ ∃ Nx : Hp → Prop, (∀ H', Nx H' → ∃ m', m' < m ∧ W (i + 1) m' H') ∧ ∀ x H', J.yld i H x H' → g x (wipe σ vs) H' fun σ2 H2 => wipe σ2 vs = wipe σ vs ∧ tt σ2 H2 fun b H3 =>
        if b = true then wi1 σ2 H3 fun J1 H4 => ∃ W1 : Nat → Nat → Hp → Prop, (∃ m, W1 0 m H4) ∧ ∀ j k H, W1 j k H →
          (J1.stop j H ∧ Nx H) ∨ (J1.go j H ∧ ∃ Nx1 : Hp → Prop, (∀ H', Nx1 H' → ∃ k', k' < k ∧ W1 (j + 1) k' H') ∧ ∀ x H', J1.yld j H x H' → g1 x (wipe σ2 vs1) H' fun σ3 H5 => wipe σ3 vs1 = wipe σ2 vs1 ∧ tt1 σ3 H5 fun b H6 =>
            if b = true then te σ3 H6 fun y H7 => ∃ acc, H7 D = some (.lst acc) ∧ acc.length < sizeLine ∧ Nx1 (upd H7 D (.lst (acc ++ [y]))) else Nx1 H6)
        else Nx H3) := by
  refine ⟨fun i m H => m = n - i ∧ i ≤ n ∧ Pv i H, ⟨n, by simp, Nat.zero_le _, h0⟩, ?_⟩
  rintro i m H ⟨rfl, hi, p⟩
  have q := hG i H hi p
  by_cases hlt : i < n
  · refine .inr ⟨w.goes i H hlt q, Pv (i + 1), fun H' p' => ⟨n - (i + 1), by omega, rfl, hlt, p'⟩, fun x H' y => hs i x H H' hlt p (w.yields i H x H' hlt q y)⟩
  · have e : i = n := by omega
    subst e
    exact .inl ⟨w.stops H q, hd H p⟩
/-- the inner for -/
theorem lc2_in (w : Walk J1 n1 G1 Y1) {g1 : TG} {tt1 : TT} {te : TE} {vs1 : List Nat} {σ2 : L2.St} {H4 : Hp} {D : Addr} {Nx : Hp → Prop} (Pv : Nat → Hp → Prop) (h0 : Pv 0 H4) (hG : ∀ j H, j ≤ n1 → Pv j H → G1 H)
    (hs : ∀ j x H H', j < n1 → Pv j H → Y1 j H x H' → g1 x (wipe σ2 vs1) H' fun σ3 H5 => wipe σ3 vs1 = wipe σ2 vs1 ∧ tt1 σ3 H5 fun b H6 =>
      if b = true then te σ3 H6 fun y H7 => ∃ acc, H7 D = some (.lst acc) ∧ acc.length < sizeLine ∧ Pv (j + 1) (upd H7 D (.lst (acc ++ [y]))) else Pv (j + 1) H6) (hd : ∀ H, Pv n1 H → Nx H) :
    ∃ W1 : Nat → Nat → Hp → Prop, (∃ m, W1 0 m H4) ∧ ∀ j k H, W1 j k H →
      (J1.stop j H ∧ Nx H) ∨ (J1.go j H ∧ ∃ Nx1 : Hp → Prop, (∀ H', Nx1 H' → ∃ k', k' < k ∧ W1 (j + 1) k' H') ∧ ∀ x H', J1.yld j H x H' → g1 x (wipe σ2 vs1) H' fun σ3 H5 => wipe σ3 vs1 = wipe σ2 vs1 ∧ tt1 σ3 H5 fun b H6 =>
        if b = true then te σ3 H6 fun y H7 => ∃ acc, H7 D = some (.lst acc) ∧ acc.length < sizeLine ∧ Nx1 (upd H7 D (.lst (acc ++ [y]))) else Nx1 H6) := by
  refine ⟨fun i m H => m = n1 - i ∧ i ≤ n1 ∧ Pv i H, ⟨n1, by simp, Nat.zero_le _, h0⟩, ?_⟩
  rintro i m H ⟨rfl, hi, p⟩
  have q := hG i H hi p
  by_cases hlt : i < n1
  · refine .inr ⟨w.goes i H hlt q, Pv (i + 1), fun H' p' => ⟨n1 - (i + 1), by omega, rfl, hlt, p'⟩, fun x H' y => hs i x H H' hlt p (w.yields i H x H' hlt q y)⟩
  · have e : i = n1 := by omega
    subst e
    exact .inl ⟨w.stops H q, hd H p⟩
end
end R4

set_option maxRecDepth 100000
set_option maxHeartbeats 2000000
namespace R5
open PySem PySem.Spec PyProof.Rows L2
/-! ### a dict whose keys are None and ints: which keys it has -/
def NdOk (P : Program) (w : World) (a : Addr) (n : Nat) (S : Option Key → Bool) (h : Heap) : Prop :=
  (a == sysModules) = false ∧ ∃ vs : List (Option Key × Value), vs.length ≤ n ∧ n ≤ sizeLine ∧ (∀ k, (valueAt vs k).isSome = S k) ∧ h.DictOf (noneKind P w) a vs
def NdO (P : Program) (w : World) (a : Addr) (n : Nat) (S : Option Key → Bool) : HO := .ext (NdOk P w a n S)
def kO : Option Nat → Option Key
  | none => none
  | some k => some (.inl (k : Int))
def vO : Option Nat → V
  | none => .non
  | some k => .int (k : Int)
theorem nd_ok {P : Program} {w : World} {H : Hp} {a : Addr} {n : Nat} {S : Option Key → Bool} {h : Heap} (x : NdOk P w a n S h) : ObjOk P w H h a (NdO P w a n S) := by
  refine ⟨x, ?_, fun h1 h2 ⟨e, vs, a1, a2, a3, o, es, ep, ho, r⟩ hs => ⟨e, vs, a1, a2, a3, o, es, ep, hs o ho, r⟩⟩
  obtain ⟨_, vs, _, _, _, o, es, ep, ho, _⟩ := x
  exact ⟨o, ho⟩
theorem key_ok {P : Program} {w : World} {k : Option Nat} {u : Value} (r : RelV (vO k) u) : (noneKind P w).is (kO k) u = true := by
  cases k with
  | none => cases (show u = Value.none from r); rfl
  | some k =>
    exact kV_is (P := P) (w := w) (k := (.inl (k : Int) : Key)) r
theorem value_stored (vs : List (Option Key × Value)) (k : Option Key) (v : Value) (j : Option Key) : (valueAt (stored vs k v) j).isSome = (decide (j = k) || (valueAt vs j).isSome) := by
  rw [valueAt_isSome_eq_any, valueAt_isSome_eq_any]
  unfold stored
  split
  · rename_i hk
    rw [List.any_map]
    have e : ((fun kv : Option Key × Value => decide (kv.1 = j)) ∘ fun kv : Option Key × Value => if kv.1 = k then (kv.1, v) else kv) = fun kv => decide (kv.1 = j) := by
      funext kv
      show decide ((if kv.1 = k then (kv.1, v) else kv).1 = j) = _
      split <;> rfl
    rw [e]
    by_cases h : j = k
    · subst h; rw [hk, decide_eq_true rfl]; rfl
    · rw [decide_eq_false h, Bool.false_or]
  · rw [List.any_append, List.any_cons, List.any_nil, Bool.or_false, Bool.or_comm]
    congr 1
    exact decide_eq_decide.mpr ⟨fun e => e.symm, fun e => e.symm⟩
def tDNewN (P : Program) (w : World) : TE := fun _ H Q => ∀ p, H p = none → Q (.ref p) (upd H p (NdO P w p 0 fun _ => false))
def rSetN (P : Program) (w : World) : TSet := fun o i _ H Q => ∃ a n S k, o = .ref a ∧ i = vO k ∧ H a = some (NdO P w a n S) ∧ n < sizeLine ∧ Q (upd H a (NdO P w a (n + 1) fun j => decide (j = kO k) || S j))
def rNin (P : Program) (w : World) : R2 := fun x y H Q => ∃ a n S k, y = .ref a ∧ x = vO k ∧ H a = some (NdO P w a n S) ∧ Q (.bl (!S (kO k))) H
section
variable {X : Cx} {pos : Pos}
theorem pe_dnewN : PE X (.Dict [] [] pos) (tDNewN X.prog X.w) := ⟨fun pins s σ H Q I h =>
  wpAny_Dict_empty ⟨.ref s.heap.objs.size, _, I.laid (a := s.heap.objs.size) (o := NdO X.prog X.w s.heap.objs.size 0 fun _ => false) (t' := s.toks) (fun _ _ q => Heap.get?_push_of_some _ q) (Nat.le_refl _)
    (nd_ok ⟨beq_eq_false_iff_ne.mpr (Ne.symm (Nat.ne_of_lt I.big)), [], Nat.le_refl _, Nat.zero_le _, fun _ => rfl, Heap.DictOf.new s.heap⟩), rfl, h _ (I.hok.fresh (Nat.le_refl _))⟩⟩
theorem nd_at {P : Program} {w : World} {H : Hp} {h : Heap} {a : Addr} {n : Nat} {S : Option Key → Bool} (ok : HOk P w H h) (e : H a = some (NdO P w a n S)) : NdOk P w a n S h := (ok a _ e).1
/-- d[k] = .. -/
theorem set_nd : PSet X (rSetN X.prog X.w) := by
  intro pins s σ H o i v ov iv u Q I ro ri rv h
  obtain ⟨a, n, S, k, rfl, rfl, e, hn, q⟩ := h
  cases ro
  obtain ⟨hd, vs, h1, h2, h3, dd⟩ := nd_at I.hok e
  refine wpAny_setItem_pairs (hsz := Nat.le_trans h1 h2) (key_ok ri) dd fun h' dd' hs => ?_
  have he : ∃ q, h'.get? a = some q := let ⟨q, _, _, hq, _⟩ := dd'; ⟨q, hq⟩
  refine ⟨_, d_write I (by rw [e]; exact True.intro) hs he (nd_ok ⟨hd, _, Nat.le_trans (stored_length_le _ _ _) (Nat.succ_le_succ h1), hn, fun j => ?_, dd'⟩), q⟩
  rw [value_stored, h3]
/-- k not in d -/
theorem op_notIn_nd : OpR X (compareOp .NotIn) (rNin X.prog X.w) := by
  intro pins s σ H x y v u Q I rx ry h
  obtain ⟨a, n, S, k, rfl, rfl, e, q⟩ := h
  cases ry
  obtain ⟨hd, vs, h1, h2, h3, dd⟩ := nd_at I.hok e
  refine wpAny_notIn_of (key_ok rx) hd dd.mapOf ?_
  refine ⟨.bl (!S (kO k)), H, I.tok _, ?_, q⟩
  show Value.bool _ = Value.bool _
  rw [← h3]
end
end R5

set_option maxRecDepth 100000
set_option maxHeartbeats 4000000
namespace K31
open PySem PySem.Spec PyProof.Rows L2 PySem.W PySem.Calls RJ
/-! ### heaps -/
theorem same_new {H : Hp} {p : Addr} {o : HO} (h : H p = none) : Same H (upd H p o) := fun b x e => by
  rw [upd_ne (ne_of_none e h)]; exact e
theorem same_at {H H' : Hp} {o : Addr} {x : HO} (s : Same H H') (h : H o = none) : Same H (upd H' o x) := fun b z e => by
  rw [upd_ne (ne_of_none e h)]; exact s b z e
theorem same_new2 {H H' : Hp} {p : Addr} {o : HO} (s : Same H H') (h : H' p = none) : Same H (upd H' p o) := fun b z e => by
  have e2 := s b z e
  rw [upd_ne (ne_of_none e2 h)]; exact e2
theorem map_snoc (rs : List Int) (r : Int) : rs.map V.int ++ [V.int r] = (rs ++ [r]).map V.int := by rw [List.map_append]; rfl
theorem map_snocS (rs : List Str) (r : Str) : rs.map V.str ++ [V.str r] = (rs ++ [r]).map V.str := by rw [List.map_append]; rfl
/-! ### texts as lists -/
abbrev tl (z : Str) : List Nat := z.cps.toList
theorem tl_len (z : Str) : (tl z).length = z.length := by simp [tl, Str.length]
theorem str_eq {a b : Str} (h : tl a = tl b) : a = b := by
  obtain ⟨x⟩ := a; obtain ⟨y⟩ := b
  show (⟨x⟩ : Str) = ⟨y⟩
  congr 1
  apply Array.toList_inj.mp; simpa [tl] using h
theorem str_of {z : Str} {x : Nat} (h : tl z = [x]) : z = ⟨#[x]⟩ := str_eq h
theorem str_mk (z : Str) : z = ⟨(tl z).toArray⟩ := str_eq rfl
theorem tl_add (a b : Str) : tl (a ++ b) = tl a ++ tl b := by
  show (a.cps ++ b.cps).toList = _
  rw [Array.toList_append]
theorem len_add (a b : Str) : (a ++ b).length = a.length + b.length := by
  show (a.cps ++ b.cps).size = _
  rw [Array.size_append]; rfl
theorem lt_one (x y : Nat) : decide ([x] < [y]) = !decide (y ≤ x) := by
  have e : decide ([x] < [y]) = decide (x < y) := by simp [List.cons_lt_cons_iff]
  rw [e]
  by_cases h : y ≤ x
  · rw [decide_eq_true h, decide_eq_false (by omega)]; rfl
  · rw [decide_eq_false h, decide_eq_true (by omega)]; rfl
theorem eqS (a b : Nat) : decide (V.str ⟨#[a]⟩ = V.str ⟨#[b]⟩) = decide (a = b) := by
  refine decide_eq_decide.mpr ⟨fun h => ?_, fun h => by rw [h]⟩
  injection h with h1
  have h2 := congrArg tl h1
  simpa [tl] using h2
theorem eqT (a b : Str) : decide (V.str a = V.str b) = decide (tl a = tl b) := by
  refine decide_eq_decide.mpr ⟨fun h => ?_, fun h => by rw [str_eq h]⟩
  injection h with h1
  rw [h1]
theorem eqI (a b : Int) : decide (V.int a = V.int b) = decide (a = b) := by
  refine decide_eq_decide.mpr ⟨fun h => ?_, fun h => by rw [h]⟩
  injection h
theorem cut_tl (z : Str) (a b : Nat) : tl (cutS z (some (a : Int)) (some (b : Int))) = ((tl z).drop (min a z.length)).take (min b z.length - min a z.length) := by
  unfold cutS tl
  rw [HT.sIx_nat, HT.sIx_nat]
theorem cut_to (z : Str) (b : Nat) : tl (cutS z none (some (b : Int))) = (tl z).take b := by
  unfold cutS tl
  rw [HT.sIx_none, HT.sIx_nat]
  show (z.cps.toList.drop 0).take (min b z.length - 0) = _
  rw [List.drop_zero, Nat.sub_zero]
  by_cases h : b ≤ z.length
  · rw [Nat.min_eq_left h]
  · rw [Nat.min_eq_right (by omega), List.take_of_length_le (by rw [tl_len]; exact Nat.le_refl _), List.take_of_length_le (by rw [tl_len]; omega)]
theorem cut_from (z : Str) (a : Nat) : tl (cutS z (some (a : Int)) none) = (tl z).drop a := by
  unfold cutS tl
  rw [HT.sIx_none, HT.sIx_nat]
  show (z.cps.toList.drop (min a z.length)).take (z.length - min a z.length) = _
  by_cases h : a ≤ z.length
  · rw [Nat.min_eq_left h, List.take_of_length_le (by rw [List.length_drop, tl_len]; exact Nat.le_refl _)]
  · rw [Nat.min_eq_right (by omega), Nat.sub_self, List.take_zero, List.drop_of_length_le (by rw [tl_len]; omega)]
theorem joinL_flat : ∀ ls : List (List Nat), TL.joinL [] ls = ls.flatten
  | [] => rfl
  | [p] => by simp [TL.joinL]
  | p :: q :: r => by
    have h := joinL_flat (q :: r)
    simp only [TL.joinL, List.nil_append, h, List.flatten_cons]
theorem tl_joined {e : Str} (he : tl e = []) (ys : List Str) : tl (Txt.join e ys) = (ys.map tl).flatten := by
  have h1 : TL.tl (Txt.join e ys) = TL.joinL (TL.tl e) (ys.map TL.tl) := by rw [TL.join_eq, TL.tl_join]
  have h2 : TL.tl e = [] := he
  rw [h2, joinL_flat] at h1
  exact h1
/-- texts of one sign each, joined -/
theorem join_ones (cs : List Nat) : tl (Txt.join (Str.ofString "") (cs.map fun c => (⟨#[c]⟩ : Str))) = cs := by
  rw [tl_joined (by decide +kernel), List.map_map]
  induction cs with
  | nil => rfl
  | cons c cs ih => simp only [List.map_cons, List.flatten_cons, ih]; rfl
theorem sum_ones (cs : List Nat) : ((cs.map fun c => (⟨#[c]⟩ : Str)).map (·.length)).sum = cs.length := by
  induction cs with
  | nil => rfl
  | cons c cs ih => simp only [List.map_cons, List.sum_cons, ih, List.length_cons]; show 1 + _ = _; omega
theorem pick {z : Str} {r : Int} (h0 : 0 ≤ r) (h1 : r < (z.length : Int)) : ∃ c, atI z.cps.toList r = some c ∧ c ∈ tl z := by
  have h2 : r.toNat < z.cps.toList.length := by rw [Array.length_toList]; have : z.length = z.cps.size := rfl; omega
  have h3 : ((r.toNat : Nat) : Int) = r := by omega
  have h4 := atI_nat (List.getElem?_eq_getElem h2)
  rw [h3] at h4
  exact ⟨_, h4, List.getElem_mem h2⟩
theorem cutV_nat (xs : List V) {a b : Nat} (hab : a ≤ b) (hb : b ≤ xs.length) : cutV xs (some (a : Int)) (some (b : Int)) = (xs.drop a).take (b - a) := by
  unfold cutV
  rw [HT.sIx_nat, HT.sIx_nat, Nat.min_eq_left hb, Nat.min_eq_left (Nat.le_trans hab hb)]
def isL (x : Nat) : Bool := decide (97 ≤ x) && decide (x ≤ 122)
def letters : Str := Str.ofString "abcdefghijklmnopqrstuvwxyz"
theorem letters_L : ∀ c ∈ tl letters, isL c = true := by decide +kernel
theorem letters_len : letters.length = 26 := by decide +kernel
/-! the text -/
def topS (i : Nat) : Stmt := PySem.Challenge.pw_laidforall_k31_idle_joints.main.body.getD i (.Pass ⟨0, 0, 0, 0⟩)
abbrev sLetter : Stmt := topS 10
abbrev sPart : Stmt := topS 18
abbrev sRead : Stmt := topS 19
abbrev sSays : Stmt := topS 20
abbrev sFits : Stmt := topS 21
abbrev sCell : Stmt := topS 24
abbrev sRow : Stmt := topS 25
abbrev sSame : Stmt := topS 26
abbrev sLetters : Stmt := topS 27
abbrev sJoint : Stmt := topS 28
abbrev sWritten : Stmt := topS 29
abbrev sList : Stmt := topS 30
abbrev sLSays : Stmt := topS 31
abbrev sLFits : Stmt := topS 32
abbrev sLDec : Stmt := topS 33
abbrev sWord : Stmt := topS 34
abbrev sSides : Stmt := topS 35
abbrev sIdle : Stmt := topS 36
abbrev sLaw : Stmt := topS 37
abbrev sWords : Stmt := topS 2
abbrev sTelling : Stmt := topS 3
abbrev sIdleJ : Stmt := topS 4
abbrev sInit : Stmt := inClass (topS 22) 0
abbrev sLen : Stmt := inClass (topS 22) 1
abbrev sIter : Stmt := inClass (topS 22) 2
abbrev sDec : Stmt := inClass (topS 22) 3
abbrev sIsJ : Stmt := inClass (topS 22) 4
abbrev sGaps : Stmt := inClass (topS 22) 5
structure Blt (mg : Str → Option Value) : Prop where
  len : mg "len" = none
  int : mg "int" = none
  str : mg "str" = none
  bool : mg "bool" = none
  tuple : mg "tuple" = none
  list : mg "list" = none
  range : mg "range" = none
  isi : mg "isinstance" = none
  sorted : mg "sorted" = none
  enumerate : mg "enumerate" = none
  zip : mg "zip" = none
  all : mg "all" = none
  iter : mg "iter" = none
  max : mg "max" = none
  min : mg "min" = none
structure Cst (mg : Str → Option Value) (t1 t2 t3 t4 t5 : Tok) : Prop where
  g_MOST_JOINT_ROWS : mg "MOST_JOINT_ROWS" = some (.int 8 t1)
  g_LONGEST_PART : mg "LONGEST_PART" = some (.int 3 t2)
  g_ANY_LETTER : mg "ANY_LETTER" = some (.str (Str.ofString "?") t3)
  g_WORD_END : mg "WORD_END" = some (.str (Str.ofString ".") t4)
  g_FORBIDS : mg "FORBIDS" = some (.str (Str.ofString " no") t5)
  g_SIDE : ∃ t, mg "SIDE" = some (.int 3 t)
theorem eQ : Str.ofString "?" = ⟨#[63]⟩ := by decide +kernel
theorem eD : Str.ofString "." = ⟨#[46]⟩ := by decide +kernel
theorem eDash : Str.ofString "-" = ⟨#[45]⟩ := by decide +kernel
section
variable {P : Program} {w : World} {K : PySem.W.Frag} {mg : Str → Option Value} {base : Heap}
/-! ### _law_cell -/
def spCell (K : PySem.W.Frag) : Sp := fun vs H Q _ => ∃ (a : Addr) (ns : List Int) (k : Int), vs = [.ref a, .int k] ∧ SqL K H a (ns.map V.int) ∧ ns.length ≤ 63 ∧ 0 ≤ k ∧ ∀ c, Q (.int c) H
theorem scCell : FnScope ["_law_script", "_law_k"] ["_law_script", "_law_k"] (defScope sCell) := ⟨rfl, rfl, rfl, by decide +kernel, rfl, by decide +kernel, by decide +kernel⟩
theorem ok_cell {f : Addr} {fd : FuncData} (B : Blt mg) (F : Fun K "_law_cell" "_law_cell" sCell f fd) : FnOk P w K mg base CX0 1 f fd ["_law_script", "_law_k"] (spCell K) := by
  refine F.ok scCell (fun vs H Q E h => ?_) (fun cdv A outer s H vs Q E hr h => ?_)
  · obtain ⟨a, ns, k, rfl, _⟩ := h; rfl
  · obtain ⟨a, ns, k, rfl, hS, hlen, h0, q⟩ := h
    refine ⟨_, pss_cons (ps_if (pt_cmpR op_lt (pv 1) (pe_callB call_len (by rfl) B.len PySem.boot_len (pa_cons (pv 0) pa_nil)) (nomark _)) (pss_one (ps_ret (pe_callTy call_int1 (by rfl) B.int (by decide +kernel) (pa_cons (pe_ix ix_list (pv 0) (pv 1) (fun _ _ => rfl)) pa_nil)))) pss_nil)
      (pss_one (ps_ret pe_int)), ?_⟩
    refine ⟨.int k, rfl, .ref a, rfl, .ref a, (ns.map V.int).length, rfl, .inl ⟨_, hS, rfl⟩, k, _, rfl, rfl, _, rfl, ite2 (fun hk => ?_) (fun _ => ?_)⟩
    · have hk' : k < ((ns.map V.int).length : Int) := of_decide_eq_true hk
      rw [List.length_map] at hk'
      have hlt : k.toNat < ns.length := by omega
      exact ⟨.ref a, rfl, .int k, rfl, a, _, k, .int (ns[k.toNat]'hlt), rfl, rfl, hS, at_of (j := k.toNat) (by omega) (by rw [List.getElem?_map]; simp [hlt]), .inl ⟨_, rfl, q _⟩⟩
    · exact q _
/-! ### _law_row -/
theorem map_snoc' (rs : List Int) (r : Int) : rs.map V.int ++ [V.int r] = (rs ++ [r]).map V.int := by rw [List.map_append]; rfl
def RowOf (ls rs : List Int) : Prop := rs.length = ls.length ∧ ∀ (i : Nat) (l : Int), ls[i]? = some l → ∃ r, rs[i]? = some r ∧ 0 ≤ r ∧ r < l
def spRow (K : PySem.W.Frag) : Sp := fun vs H Q _ => ∃ (c : Int) (a : Addr) (ls : List Int), vs = [.int c, .ref a] ∧ SqL K H a (ls.map V.int) ∧ ls.length ≤ 1000 ∧ (∀ l ∈ ls, 0 < l ∧ l < 1000000) ∧
  ∀ H' p rs, Same H H' → H p = none → H' p = some (.lst (rs.map V.int)) → RowOf ls rs → Q (.ref p) H'
theorem scRow : FnScope ["_law_cell_here", "_law_limits", "_law_row_here", "_law_rest", "_law_limit", "_law_k", "_law_mixed"] ["_law_cell_here", "_law_limits"] (defScope sRow) := ⟨rfl, rfl, rfl, by decide +kernel, rfl, by decide +kernel, by decide +kernel⟩
theorem ok_row {f : Addr} {fd : FuncData} (B : Blt mg) (F : Fun K "_law_row" "_law_row" sRow f fd) : FnOk P w K mg base CX0 1 f fd ["_law_cell_here", "_law_limits"] (spRow K) := by
  refine F.ok scRow (fun vs H Q E h => ?_) (fun cdv A outer s H vs Q E hr h => ?_)
  · obtain ⟨c, a, ls, rfl, _⟩ := h; rfl
  · obtain ⟨c, a, ls, rfl, hS, hlen, hpos, q⟩ := h
    refine ⟨_, (pss_cons (ps_set (i := 2) scRow.nd rfl (.inl rfl) (pe_lst pa_nil))
      (pss_cons (ps_if (pt_cmpR op_ge (pv 0) pe_int (nomark _))
      (pss_cons (ps_set (i := 3) scRow.nd rfl (.inl rfl) (pe_op op_sub (pv 0) pe_int))
       (pss_cons (ps_for (PassesOwn.never) rfl (pi_list (pv 1)) (pg_name (i := 4) scRow.nd rfl (.inl rfl))
       (pss_cons (ps_expr (pe_bm PySem.F.plainAttrs_list PySem.F.slot_list_append PySem.F.type_list_append mt_append (pv 2) (pa_cons (pe_op op_modN (pe_callTy call_int1 (by rfl) B.int (by decide +kernel) (pa_cons (pv 3) pa_nil)) (pv 4)) pa_nil)))
        (pss_one (ps_set (i := 3) scRow.nd rfl (.inl rfl) (pe_op op_fdivN (pv 3) (pv 4))))))
       (pss_one (ps_ret (pv 2)))))
      pss_nil)
      (pss_cons (ps_for (PassesOwn.never) rfl (pi_range1 (by rfl) B.range (pa_cons (pe_callB call_len (by rfl) B.len PySem.boot_len (pa_cons (pv 1) pa_nil)) pa_nil)) (pg_name (i := 5) scRow.nd rfl (.inl rfl))
      (pss_cons (ps_set (i := 6) scRow.nd rfl (.inl rfl) (pe_op op_modN (pe_callTy call_int1 (by rfl) B.int (by decide +kernel) (pa_cons (pe_op op_add (pe_op op_add (pe_op op_mul (pv 0) pe_int) (pe_op op_mul (pv 5) pe_int)) pe_int) pa_nil)) pe_int))
       (pss_cons (ps_set (i := 6) scRow.nd rfl (.inl rfl) (pe_op op_modN (pe_callTy call_int1 (by rfl) B.int (by decide +kernel) (pa_cons (pe_op op_add (pe_op op_add (pe_op op_mul (pv 6) (pe_op op_add pe_int (pe_op op_mul pe_int (pv 5)))) (pe_op op_mul (pe_op op_mul (pv 5) (pv 5)) pe_int)) pe_int) pa_nil)) pe_int))
       (pss_one (ps_expr (pe_bm PySem.F.plainAttrs_list PySem.F.slot_list_append PySem.F.type_list_append mt_append (pv 2) (pa_cons (pe_op op_modN (pe_callTy call_int1 (by rfl) B.int (by decide +kernel) (pa_cons (pe_op op_fdivN (pv 6) pe_int) pa_nil)) (pe_ix ix_list (pv 1) (pv 5) (fun _ _ => rfl))) pa_nil)))))))
      (pss_one (ps_ret (pv 2)))))), ?_⟩
    refine ⟨Nat.zero_le _, fun o no => ?_⟩
    have s1 : Same H (upd H o (.lst [])) := same_new no
    have eo : (upd H o (.lst [])) o = some (.lst (([] : List Int).map V.int)) := upd_same
    generalize upd H o (.lst []) = H1 at s1 eo ⊢
    have more : ∀ (n : Nat) (rs : List Int) (l : Int), ls[n]? = some l → rs.length = n → (∀ (i : Nat) (l : Int), i < n → ls[i]? = some l → ∃ r, rs[i]? = some r ∧ 0 ≤ r ∧ r < l) → ∀ x : Int, ∀ (i : Nat) (m : Int), i < n + 1 → ls[i]? = some m → ∃ r, (rs ++ [x.fmod l])[i]? = some r ∧ 0 ≤ r ∧ r < m := by
      intro n rs l hl hrs hrow x i m hi hm
      have hp := hpos l (List.mem_of_getElem? hl)
      by_cases hin : i < n
      · obtain ⟨r, h1, h2, h3⟩ := hrow i m hin hm
        exact ⟨r, by rw [List.getElem?_append_left (by omega)]; exact h1, h2, h3⟩
      · obtain rfl : i = n := by omega
        rw [hl] at hm; cases hm
        exact ⟨_, by rw [List.getElem?_append_right (by omega), hrs, Nat.sub_self]; rfl, Int.fmod_nonneg_of_pos _ hp.1, Int.fmod_lt_of_pos _ hp.1⟩
    refine ⟨.int c, rfl, c, 1000000000000000000, rfl, rfl, _, rfl, ite2 (fun _ => ?_) (fun _ => ?_)⟩
    · refine ⟨.int c, rfl, c, 1000000000000000000, rfl, rfl, .ref a, rfl, a, rfl, ⟨_, s1.seq hS⟩, for_list (K := K) (a := a) (xs := ls.map V.int) (fun n σ H' => ∃ (rest : Int) (y4 y5 y6 : Option V) (rs : List Int), σ = [some (.int c), some (.ref a), some (.ref o), some (.int rest), y4, y5, y6] ∧ Same H H' ∧ H' o = some (.lst (rs.map V.int)) ∧ rs.length = n ∧
        ∀ (i : Nat) (l : Int), i < n → ls[i]? = some l → ∃ r, rs[i]? = some r ∧ 0 ≤ r ∧ r < l) ⟨_, none, none, none, [], rfl, s1, eo, rfl, fun i l h => absurd h (Nat.not_lt_zero i)⟩ (fun n σ H' _ ⟨_, _, _, _, _, _, sm, _⟩ => sm.seq hS) ?_ ?_⟩
      · rintro n x σ H' hn ⟨rest, y4, y5, y6, rs, rfl, sm, ho, hl, hrow⟩
        rw [List.getElem?_map] at hn
        cases en : ls[n]? with
        | none => rw [en] at hn; cases hn
        | some l =>
        rw [en] at hn; cases hn
        have hp := hpos l (List.mem_of_getElem? en)
        have hlt := (List.getElem?_eq_some_iff.mp en).1
        have hsz : (rs.map V.int).length < sizeLine := by rw [List.length_map]; exact small1000 (by omega)
        refine ⟨.ref o, rfl, .inl ⟨rfl, _, SqL.of ho⟩, .int rest, rfl, .inl ⟨rest, rfl, .int l, rfl, rest, l, rfl, rfl, by omega, o, _, _, rfl, rfl, ho, hsz, ?_⟩⟩
        refine ⟨.int rest, rfl, .int l, rfl, rest, l, rfl, rfl, ⟨by omega, by omega⟩, ?_⟩
        exact ⟨_, _, _, _, _, rfl, same_at sm no, by rw [upd_same, map_snoc'], by rw [List.length_append, hl]; rfl, more n rs l en hl hrow rest⟩
      · rintro σ H' ⟨rest, y4, y5, y6, rs, rfl, sm, ho, hl, hrow⟩
        rw [List.length_map] at hl hrow
        exact ⟨.ref o, rfl, q H' o rs sm no ho ⟨hl, fun i l hli => hrow i l (List.getElem?_eq_some_iff.mp hli).1 hli⟩⟩
    · refine ⟨.ref a, rfl, .ref a, (ls.map V.int).length, rfl, .inl ⟨_, s1.seq hS, rfl⟩, ((ls.map V.int).length : Int), rfl, by omega, by rw [List.length_map]; omega, ?_⟩
      rw [Int.toNat_natCast, List.length_map]
      refine for_range (lo := 0) (n := ls.length) (fun n σ H' => ∃ (y3 y4 y5 y6 : Option V) (rs : List Int), σ = [some (.int c), some (.ref a), some (.ref o), y3, y4, y5, y6] ∧ Same H H' ∧ H' o = some (.lst (rs.map V.int)) ∧ rs.length = n ∧
        ∀ (i : Nat) (l : Int), i < n → ls[i]? = some l → ∃ r, rs[i]? = some r ∧ 0 ≤ r ∧ r < l) ⟨none, none, none, none, [], rfl, s1, eo, rfl, fun i l h => absurd h (Nat.not_lt_zero i)⟩ ?_ ?_
      · rintro n σ H' hn ⟨y3, y4, y5, y6, rs, rfl, sm, ho, hl, hrow⟩
        have e0 : (0 : Int) + (n : Int) = (n : Int) := by omega
        rw [e0]
        have hSn : SqL K H' a (ls.map V.int) := sm.seq hS
        have en : ls[n]? = some (ls[n]'hn) := by simp [hn]
        have hat : (ls.map V.int)[n]? = some (.int (ls[n]'hn)) := by rw [List.getElem?_map, en]; rfl
        have hp := hpos (ls[n]'hn) (List.getElem_mem hn)
        have hsz : (rs.map V.int).length < sizeLine := by rw [List.length_map]; exact small1000 (by omega)
        refine ⟨.int c, rfl, c, 48271, rfl, rfl, .inr ⟨by decide, by decide⟩, .int (n : Int), rfl, (n : Int), 69621, rfl, rfl, .inr ⟨by decide, by decide⟩, _, _, rfl, rfl, _, 11, rfl, rfl, .inl ⟨_, rfl, _, 2147483647, rfl, rfl, (show (2147483647 : Int) ≠ 0 by decide), ?_⟩⟩
        have hm0 : 0 ≤ (c * 48271 + (n : Int) * 69621 + 11).fmod 2147483647 := Int.fmod_nonneg_of_pos _ (by decide)
        have hm1 : (c * 48271 + (n : Int) * 69621 + 11).fmod 2147483647 < 2147483647 := Int.fmod_lt_of_pos _ (by decide)
        refine ⟨_, rfl, .int (n : Int), rfl, 2, (n : Int), rfl, rfl, .inl ⟨by decide, by decide⟩, 16807, _, rfl, rfl, (c * 48271 + (n : Int) * 69621 + 11).fmod 2147483647, _, rfl, rfl, .inl ⟨Int.lt_of_lt_of_le (by decide) hm0, Int.lt_trans hm1 (by decide)⟩, .int (n : Int), rfl, .int (n : Int), rfl, (n : Int), (n : Int), rfl, rfl, .inl ⟨by omega, by omega⟩, _, 40692, rfl, rfl, .inr ⟨by decide, by decide⟩, _, _, rfl, rfl, _, 7, rfl, rfl, .inl ⟨_, rfl, _, 2147483399, rfl, rfl, (show (2147483399 : Int) ≠ 0 by decide), ?_⟩⟩
        refine ⟨.ref o, rfl, .inl ⟨rfl, _, SqL.of ho⟩, _, rfl, _, 31, rfl, rfl, ⟨by decide, by decide⟩, .inl ⟨_, rfl, .ref a, rfl, .int (n : Int), rfl, a, _, (n : Int), .int (ls[n]'hn), rfl, rfl, hSn, atI_nat hat, _, ls[n]'hn, rfl, rfl, by omega, o, _, _, rfl, rfl, ho, hsz, ?_⟩⟩
        exact ⟨_, _, _, _, _, rfl, same_at sm no, by rw [upd_same, map_snoc'], by rw [List.length_append, hl]; rfl, more n rs _ en hl hrow _⟩
      · rintro σ H' ⟨y3, y4, y5, y6, rs, rfl, sm, ho, hl, hrow⟩
        exact ⟨.ref o, rfl, q H' o rs sm no ho ⟨hl, fun i l hli => hrow i l (List.getElem?_eq_some_iff.mp hli).1 hli⟩⟩
end
end K31

set_option maxRecDepth 100000
set_option maxHeartbeats 4000000
namespace K31
open PySem PySem.Spec PyProof.Rows L2 RJ
/-! ### parts -/
def PartOk (e : Int) (l : List Nat) : Prop := ∀ (i c : Nat), l[i]? = some c → isL c = true ∨ c = 63 ∨ (c = 46 ∧ (i : Int) = e)
def okc (w c : Nat) : Bool := decide (w = c) || (decide (w = 63) && isL c)
def saysZ : List Nat → List Nat → Bool
  | w :: ws, c :: cs => okc w c && saysZ ws cs
  | _, _ => true
/-- a row fits a gap -/
def fitsB (l r w : List Nat) (g : Nat) : Bool :=
  !(decide ((w.take g).length + 1 < l.length) || decide ((w.drop g).length + 1 < r.length)) &&
    (saysZ l ((46 :: w.take g).drop ((w.take g).length + 1 - l.length)) && saysZ r ((w.drop g ++ [46]).take r.length))
section
variable {P : Program} {w : World} {K : PySem.W.Frag} {mg : Str → Option Value} {base : Heap} {t1 t2 t3 t4 t5 : Tok}
/-! ### is_letter -/
def spLet : Sp := fun vs H Q _ => ∃ (x : Nat), vs = [.str ⟨#[x]⟩] ∧ Q (.bl (isL x)) H
theorem scLetter : FnScope ["char"] ["char"] (defScope sLetter) := ⟨rfl, rfl, rfl, by decide +kernel, rfl, by decide +kernel, by decide +kernel⟩
theorem ok_letter {f : Addr} {fd : FuncData} (F : Fun K "is_letter" "is_letter" sLetter f fd) : FnOk P w K mg base CX0 1 f fd ["char"] spLet := by
  refine F.ok scLetter (fun vs H Q E h => ?_) (fun cdv A outer s H vs Q E hr h => ?_)
  · obtain ⟨c, rfl, _⟩ := h; rfl
  · obtain ⟨x, rfl, q⟩ := h
    refine ⟨_, pss_one (ps_ret (pe_chain op_le_str op_le_str pe_str (pv 0) pe_str)), ?_⟩
    refine ⟨.str ⟨#[x]⟩, rfl, _, ⟨#[x]⟩, rfl, rfl, _, rfl, ?_⟩
    have hc : (⟨#[x]⟩ : Str).cps.toList = [x] := rfl
    have e : (!decide ((⟨#[x]⟩ : Str).cps.toList < (Str.ofString "a").cps.toList)) = decide (97 ≤ x) := by rw [hc, show (Str.ofString "a").cps.toList = [97] by decide +kernel, lt_one, Bool.not_not]
    have e2 : (!decide ((Str.ofString "z").cps.toList < (⟨#[x]⟩ : Str).cps.toList)) = decide (x ≤ 122) := by rw [hc, show (Str.ofString "z").cps.toList = [122] by decide +kernel, lt_one, Bool.not_not]
    rw [e]
    refine ite2 (fun h => ?_) (fun h => ?_)
    · refine ⟨⟨#[x]⟩, _, rfl, rfl, ?_⟩
      rw [e2]; unfold isL at q; rw [h, Bool.true_and] at q; exact q
    · have h' : decide (97 ≤ x) = false := by simpa using h
      unfold isL at q; rw [h', Bool.false_and] at q; exact q
/-! ### _is_part -/
def spPart : Sp := fun vs H Q _ => ∃ (z : Str) (e : Int), vs = [.str z, .int e] ∧ z.length ≤ 3 ∧ PartOk e (tl z) ∧ ∀ H', Same H H' → Q (.bl true) H'
theorem scPart : FnScope ["text", "end", "at", "char"] ["text", "end"] (defScope sPart) := ⟨rfl, rfl, rfl, by decide +kernel, rfl, by decide +kernel, by decide +kernel⟩
theorem ok_part {f f_is_letter : Addr} {fd fd_is_letter : FuncData} (B : Blt mg) (Z : Cst mg t1 t2 t3 t4 t5) (F : Fun K "_is_part" "_is_part" sPart f fd)
    (F_is_letter : Fun K "is_letter" "is_letter" sLetter f_is_letter fd_is_letter) (b_is_letter : Binds K fd_is_letter ["char"] []) (g_is_letter : mg "is_letter" = some (.ref f_is_letter)) :
    FnOk P w K mg base CX0 2 f fd ["text", "end"] spPart := by
  have G_is_letter : FnOk P w K mg base CX0 1 f_is_letter fd_is_letter ["char"] spLet := ok_letter F_is_letter
  refine F.ok scPart (fun vs H Q E h => ?_) (fun cdv A0 outer s H vs Q E hr h => ?_)
  · obtain ⟨z, e, rfl, _⟩ := h; rfl
  · obtain ⟨z, e, rfl, hl, hp, q⟩ := h
    refine ⟨_, (pss_cons (ps_if (pt_cmpR op_gt (pe_callB call_len (by rfl) B.len PySem.boot_len (pa_cons (pv 0) pa_nil)) (pe_glob (v := .int 3) (by rfl) Z.g_LONGEST_PART ⟨_, rfl⟩) (nomark _))
      (pss_one (ps_ret pe_bl))
      pss_nil)
      (pss_cons (ps_for (PassesOwn.never) rfl (pi_enumS (by rfl) B.enumerate (pa_cons (pv 0) pa_nil)) (pg_tup rfl (pgs_cons (pg_name (i := 2) scPart.nd rfl (.inl rfl)) (pgs_cons (pg_name (i := 3) scPart.nd rfl (.inl rfl)) pgs_nil)))
      (pss_one (ps_if (PW.pt (pw_and (pt_cmpR op_ne (pv 3) (pe_glob (v := .str (Str.ofString "?")) (by rfl) Z.g_ANY_LETTER ⟨_, rfl⟩) (nomark _)) (pw_and (pt_not (pt_val (pe_call G_is_letter hr (by rfl) g_is_letter F_is_letter.kp b_is_letter .nil pass0 (pa_cons (pv 3) pa_nil)))) (pw_and1 (PW.pt (pw_or (pt_cmpR op_ne (pv 3) (pe_glob (v := .str (Str.ofString ".")) (by rfl) Z.g_WORD_END ⟨_, rfl⟩) (nomark _)) (pw_or1 (pt_cmpR op_ne (pv 2) (pv 1) (nomark _)))))))))
       (pss_one (ps_ret pe_bl))
       pss_nil)))
      (pss_one (ps_ret pe_bl)))), ?_⟩
    refine ⟨.str z, rfl, .str z, z.length, rfl, ⟨Nat.le_trans hl (by decide), rfl⟩, _, 3, rfl, rfl, _, rfl, ?_⟩
    rw [decide_eq_false (by omega)]
    refine iteF ⟨.str z, rfl, z, rfl, ?_⟩
    refine for_enumS (fun i σ H' => ∃ y2 y3, σ = [some (.str z), some (.int e), y2, y3] ∧ Same H H') ⟨none, none, rfl, Same.refl _⟩ ?_ ?_
    · rintro i c T σ H' hc ⟨y2, y3, rfl, sm⟩ nT
      have hc' : (tl z)[i]? = some c := by simpa [tl] using hc
      refine ⟨T, _, rfl, SqT.of upd_same, rfl, .int (i : Nat), _, rfl, .str ⟨#[c]⟩, _, rfl, rfl, ?_⟩
      have go : ∃ y2 y3, ([some (V.str z), some (V.int e), some (V.int (i : Nat)), some (V.str ⟨#[c]⟩)] : L2.St) = [some (.str z), some (.int e), y2, y3] ∧ Same H (upd H' T (.tup [.int (i : Nat), .str ⟨#[c]⟩])) := ⟨_, _, rfl, same_new2 sm nT⟩
      refine ⟨.str ⟨#[c]⟩, rfl, rfl, _, rfl, ?_⟩
      rw [eQ, eqS]
      rcases hp i c hc' with h | h | ⟨h, h2⟩
      · refine ite2 (fun _ => ⟨.str ⟨#[c]⟩, rfl, c, rfl, _, rfl, ?_⟩) (fun _ => go)
        rw [h]
        exact iteF go
      · rw [decide_eq_true h]
        exact iteF go
      · refine ite2 (fun _ => ⟨.str ⟨#[c]⟩, rfl, c, rfl, _, rfl, ?_⟩) (fun _ => go)
        refine ite2 (fun _ => ⟨.str ⟨#[c]⟩, rfl, rfl, _, rfl, ?_⟩) (fun _ => go)
        rw [eD, eqS, decide_eq_true h]
        refine iteF ⟨.int (i : Nat), rfl, .int e, rfl, rfl, _, rfl, ?_⟩
        rw [eqI, decide_eq_true h2]
        exact iteF go
    · rintro σ H' ⟨y2, y3, rfl, sm⟩
      exact q H' sm
/-! ### _read_joint -/
theorem par_dash (l : List Nat) (r acc : List Nat) (h : 45 ∉ l) : TL.par [45] acc (l ++ 45 :: r) = some (acc ++ l, r) := by
  induction l generalizing acc with
  | nil => simp [TL.par, TL.pre]
  | cons c l ih =>
    have h1 : c ≠ 45 := fun e => h (by simp [e])
    have h2 : 45 ∉ l := fun e => h (by simp [e])
    rw [List.cons_append]
    unfold TL.par
    have hp : TL.pre [45] (c :: (l ++ 45 :: r)) = false := by
      simp [TL.pre, h1]
    rw [if_neg (by rw [hp]; exact Bool.false_ne_true), ih _ h2, List.append_assoc]; rfl
theorem part_no {e : Int} {l : List Nat} (h : PartOk e l) {x : Nat} (hx : isL x = false) (h1 : x ≠ 63) (h2 : x ≠ 46) : x ∉ l := fun hm => by
  obtain ⟨i, hi⟩ := List.mem_iff_getElem?.mp hm
  rcases h i x hi with h | h | h
  · rw [hx] at h; cases h
  · exact h1 h
  · exact h2 h.1
def noL (b : Bool) : List Nat := if b then [32, 110, 111] else []
/-- the written row -/
def wrt (l r : List Nat) (b : Bool) : List Nat := l ++ 45 :: (r ++ noL b)
theorem partn {z l r : Str} {b : Bool} (hz : tl z = wrt (tl l) (tl r) b) (h : PartOk 0 (tl l)) : Txt.partition z (Str.ofString "-") = (l, Str.ofString "-", ⟨(tl r ++ noL b).toArray⟩) := by
  have hn : 45 ∉ tl l := part_no h (by decide) (by decide) (by decide)
  have e := SX.partition_some (a := tl z) (b := [45]) (p := tl l) (q := tl r ++ noL b) (by decide) (by rw [hz]; unfold wrt; rw [par_dash _ _ _ hn]; rfl)
  rw [SX.S_tl] at e
  have e1 : SX.S [45] = Str.ofString "-" := by decide +kernel
  rw [e1] at e
  rw [e]
theorem suff {r : Str} {b : Bool} {e : Int} (h3 : r.length ≤ 3) (h : PartOk e (tl r)) : Txt.removesuffix ⟨(tl r ++ noL b).toArray⟩ (Str.ofString " no") = r := by
  have hs : tl (Str.ofString " no") = [32, 110, 111] := by decide +kernel
  have hsl : (Str.ofString " no").length = 3 := by decide +kernel
  have hl : (⟨(tl r ++ noL b).toArray⟩ : Str).length = (tl r).length + (noL b).length := by show (tl r ++ noL b).toArray.size = _; simp
  rw [PySem.StrLaws.removesuffix_eq]
  cases b with
  | true =>
    have e1 : (noL true).length = 3 := rfl
    have e2 : tl (⟨(tl r ++ noL true).toArray⟩ : Str) = tl r ++ [32, 110, 111] := rfl
    have hat : Builtin.Str.subAt ⟨(tl r ++ noL true).toArray⟩ (Str.ofString " no") ((⟨(tl r ++ noL true).toArray⟩ : Str).length - (Str.ofString " no").length) = true := by
      have := (TL.at_iff (x := ⟨(tl r ++ noL true).toArray⟩) (y := Str.ofString " no") (by rw [show TL.tl (Str.ofString " no") = [32, 110, 111] from hs]; decide) ((tl r).length)).mpr (by
        show TL.pre (tl (Str.ofString " no")) ((tl r ++ [32, 110, 111]).drop (tl r).length) = true
        rw [hs, List.drop_left]; rfl)
      rw [hl, e1, hsl, Nat.add_sub_cancel]
      exact this.2
    rw [hat, hl, e1, hsl, decide_eq_true (by omega)]
    rw [Bool.and_self, if_pos rfl]
    refine str_eq ?_
    show ((tl r ++ [32, 110, 111]).drop 0).take ((tl r).length + 3 - 3 - 0) = tl r
    rw [List.drop_zero, Nat.add_sub_cancel, Nat.sub_zero, List.take_left]
  | false =>
    have e0 : (⟨(tl r ++ noL false).toArray⟩ : Str) = r := by
      refine str_eq ?_
      show tl r ++ [] = tl r
      rw [List.append_nil]
    rw [e0, hsl]
    have : (decide (0 + 3 ≤ r.length) && Builtin.Str.subAt r (Str.ofString " no") (r.length - 3)) = false := by
      by_cases hlt : r.length = 3
      · rw [hlt]
        rw [Bool.and_eq_false_iff]; right
        cases hb : Builtin.Str.subAt r (Str.ofString " no") (3 - 3) with
        | false => rfl
        | true =>
          exfalso
          have hat : PySem.StrLaws.At r (Str.ofString " no") r.length 0 := by
            refine ⟨?_, hb⟩
            rw [hsl, hlt]; decide
          have hp := (TL.at_iff (x := r) (y := Str.ofString " no") (by rw [show TL.tl (Str.ofString " no") = [32, 110, 111] from hs]; decide) 0).mp hat
          have hp' : TL.pre [32, 110, 111] (tl r) = true := by
            rw [← hs]
            exact hp
          have h4 : (tl r).take 3 = [32, 110, 111] := by simpa [TL.pre] using hp'
          have h5 : 32 ∈ tl r := List.mem_of_mem_take (by rw [h4]; simp : 32 ∈ (tl r).take 3)
          exact part_no h (by decide) (by decide) (by decide) h5
      · rw [decide_eq_false (by omega)]; rfl
    rw [this, if_neg (by decide)]
end
end K31

set_option maxRecDepth 100000
set_option maxHeartbeats 4000000
namespace K31
open PySem PySem.Spec PyProof.Rows L2 RJ
section
variable {P : Program} {w : World} {K : PySem.W.Frag} {mg : Str → Option Value} {base : Heap} {t1 t2 t3 t4 t5 : Tok}
/-! ### _read_joint -/
def spRead : Sp := fun vs H Q _ => ∃ (z l r : Str) (b : Bool), vs = [.str z] ∧ tl z = wrt (tl l) (tl r) b ∧ l.length ≤ 3 ∧ r.length ≤ 3 ∧ PartOk 0 (tl l) ∧ PartOk ((r.length : Int) - 1) (tl r) ∧
  ∀ H' p, Same H H' → H' p = some (.tup [.str l, .str r, .bl b]) → Q (.ref p) H'
theorem scRead : FnScope ["line", "left", "dash", "tail", "right"] ["line"] (defScope sRead) := ⟨rfl, rfl, rfl, by decide +kernel, rfl, by decide +kernel, by decide +kernel⟩
theorem ok_read {f f_is_letter f_is_part : Addr} {fd fd_is_letter fd_is_part : FuncData} (B : Blt mg) (Z : Cst mg t1 t2 t3 t4 t5) (F : Fun K "_read_joint" "_read_joint" sRead f fd)
    (F_is_letter : Fun K "is_letter" "is_letter" sLetter f_is_letter fd_is_letter) (b_is_letter : Binds K fd_is_letter ["char"] []) (g_is_letter : mg "is_letter" = some (.ref f_is_letter))
    (F_is_part : Fun K "_is_part" "_is_part" sPart f_is_part fd_is_part) (b_is_part : Binds K fd_is_part ["text", "end"] []) (g_is_part : mg "_is_part" = some (.ref f_is_part)) :
    FnOk P w K mg base CX0 3 f fd ["line"] spRead := by
  have G_is_part : FnOk P w K mg base CX0 2 f_is_part fd_is_part ["text", "end"] spPart := ok_part B Z F_is_part F_is_letter b_is_letter g_is_letter
  refine F.ok scRead (fun vs H Q E h => ?_) (fun cdv A0 outer s H vs Q E hr h => ?_)
  · obtain ⟨z, l, r, b, rfl, _⟩ := h; rfl
  · obtain ⟨z, l, r, b, rfl, hz, hl, hrl, pl, pr, q⟩ := h
    refine ⟨_, (pss_cons (ps_asg (pe_partition (pv 0) pe_str) (pg_tup rfl (pgs_cons (pg_name (i := 1) scRead.nd rfl (.inl rfl)) (pgs_cons (pg_name (i := 2) scRead.nd rfl (.inl rfl)) (pgs_cons (pg_name (i := 3) scRead.nd rfl (.inl rfl)) pgs_nil)))))
      (pss_cons (ps_set (i := 4) scRead.nd rfl (.inl rfl) (pe_m1 PySem.F.slot_str_removesuffix PySem.F.type_str_removesuffix mt_removesuffix (pv 3) (pe_glob (v := .str (Str.ofString " no")) (by rfl) Z.g_FORBIDS ⟨_, rfl⟩)))
      (pss_cons (ps_if (PW.pt (pw_or (pt_cmpR op_eq (pv 2) pe_str (nomark _)) (pw_or (pt_not (pt_val (pe_call G_is_part hr (by rfl) g_is_part F_is_part.kp b_is_part .nil pass0 (pa_cons (pv 1) (pa_cons pe_int pa_nil))))) (pw_or1 (pt_not (pt_val (pe_call G_is_part hr (by rfl) g_is_part F_is_part.kp b_is_part .nil pass0 (pa_cons (pv 4) (pa_cons (pe_op op_sub (pe_callB call_len (by rfl) B.len PySem.boot_len (pa_cons (pv 4) pa_nil)) pe_int) pa_nil)))))))))
      (pss_one ps_never)
      pss_nil)
      (pss_one (ps_ret (pe_tup (pa_cons (pv 1) (pa_cons (pv 4) (pa_cons (pe_cmpR op_ne (pv 4) (pv 3) (nomark _)) pa_nil))))))))), ?_⟩
    have hn : (noL b).length ≤ 3 := by cases b <;> decide
    have hzl : z.length ≤ 100 := by
      rw [← tl_len, hz]; unfold wrt
      have e1 := tl_len l; have e2 := tl_len r
      simp only [List.length_append, List.length_cons]; omega
    have htl : (⟨(tl r ++ noL b).toArray⟩ : Str).length ≤ 100 := by
      show (tl r ++ noL b).toArray.size ≤ _
      have e2 := tl_len r
      rw [List.size_toArray, List.length_append]; omega
    refine ⟨.str z, rfl, ⟨z, rfl⟩, z, Str.ofString "-", rfl, rfl, by decide +kernel, Nat.le_trans hzl (by decide), fun p np => ?_⟩
    rw [partn hz pl]
    have s1 : Same H (upd H p (.tup [.str l, .str (Str.ofString "-"), .str ⟨(tl r ++ noL b).toArray⟩])) := same_new np
    refine ⟨p, _, rfl, SqT.of upd_same, rfl, .str l, _, rfl, .str (Str.ofString "-"), _, rfl, .str ⟨(tl r ++ noL b).toArray⟩, _, rfl, rfl, ?_⟩
    generalize upd H p (.tup [.str l, .str (Str.ofString "-"), .str ⟨(tl r ++ noL b).toArray⟩]) = H1 at s1 ⊢
    refine ⟨.str ⟨(tl r ++ noL b).toArray⟩, rfl, ⟨_, rfl⟩, _, _, rfl, rfl, Nat.le_trans htl (by decide), ?_⟩
    dsimp only
    rw [suff hrl pr]
    refine ⟨.str (Str.ofString "-"), rfl, rfl, _, rfl, ?_⟩
    rw [show decide (V.str (Str.ofString "-") = V.str (Str.ofString "")) = false by rw [eqT]; decide +kernel]
    refine iteF ⟨.str l, rfl, l, 0, rfl, hl, pl, fun H2 s2 => ⟨true, rfl, iteF ?_⟩⟩
    refine ⟨.str r, rfl, .str r, rfl, .str r, r.length, rfl, ⟨Nat.le_trans hrl (by decide), rfl⟩, _, 1, rfl, rfl, r, _, rfl, hrl, pr, fun H3 s3 => ⟨true, rfl, iteF ?_⟩⟩
    refine ⟨.str l, rfl, .str r, rfl, .str r, rfl, .str ⟨(tl r ++ noL b).toArray⟩, rfl, rfl, (by show 3 ≤ sizeLine; decide), fun t nt => ?_⟩
    refine q _ t (s1.trans (s2.trans (s3.trans (same_new nt)))) ?_
    rw [upd_same, eqT]
    have : (!decide (tl r = tl (⟨(tl r ++ noL b).toArray⟩ : Str))) = b := by
      show (!decide (tl r = tl r ++ noL b)) = b
      cases b with
      | true => rw [decide_eq_false (by intro e; have := congrArg List.length e; simp [noL] at this)]; rfl
      | false => rw [decide_eq_true (by simp [noL])]; rfl
    rw [this]
/-! ### _says -/
theorem says_drop {a b : List Nat} {i x y : Nat} (h1 : a[i]? = some x) (h2 : b[i]? = some y) : saysZ (a.drop i) (b.drop i) = (okc x y && saysZ (a.drop (i + 1)) (b.drop (i + 1))) := by
  obtain ⟨l1, e1⟩ := List.getElem?_eq_some_iff.mp h1
  obtain ⟨l2, e2⟩ := List.getElem?_eq_some_iff.mp h2
  rw [List.drop_eq_getElem_cons l1, List.drop_eq_getElem_cons l2, e1, e2]; rfl
theorem says_end {a b : List Nat} {n : Nat} (h : n = min a.length b.length) : saysZ (a.drop n) (b.drop n) = true := by
  by_cases hl : a.length ≤ b.length
  · rw [show n = a.length by omega, List.drop_length]; rfl
  · rw [show n = b.length by omega, List.drop_length]
    cases a.drop b.length <;> rfl
def spSays : Sp := fun vs H Q _ => ∃ (a b : Str), vs = [.str a, .str b] ∧ ∀ H', Same H H' → Q (.bl (saysZ (tl a) (tl b))) H'
theorem scSays : FnScope ["part", "text", "wanted", "char"] ["part", "text"] (defScope sSays) := ⟨rfl, rfl, rfl, by decide +kernel, rfl, by decide +kernel, by decide +kernel⟩
theorem ok_says {f f_is_letter : Addr} {fd fd_is_letter : FuncData} (B : Blt mg) (Z : Cst mg t1 t2 t3 t4 t5) (F : Fun K "_says" "_says" sSays f fd)
    (F_is_letter : Fun K "is_letter" "is_letter" sLetter f_is_letter fd_is_letter) (b_is_letter : Binds K fd_is_letter ["char"] []) (g_is_letter : mg "is_letter" = some (.ref f_is_letter)) :
    FnOk P w K mg base CX0 2 f fd ["part", "text"] spSays := by
  have G_is_letter : FnOk P w K mg base CX0 1 f_is_letter fd_is_letter ["char"] spLet := ok_letter F_is_letter
  refine F.ok scSays (fun vs H Q E h => ?_) (fun cdv A0 outer s H vs Q E hr h => ?_)
  · obtain ⟨a, b, rfl, _⟩ := h; rfl
  · obtain ⟨a, b, rfl, q⟩ := h
    refine ⟨_, (pss_cons (ps_for (PassesOwn.never) rfl (pi_zipS (by rfl) B.zip (pa_cons (pv 0) (pa_cons (pv 1) pa_nil))) (pg_tup rfl (pgs_cons (pg_name (i := 2) scSays.nd rfl (.inl rfl)) (pgs_cons (pg_name (i := 3) scSays.nd rfl (.inl rfl)) pgs_nil)))
      (pss_one (ps_if (PW.pt (pw_and (pt_cmpR op_ne (pv 2) (pv 3) (nomark _)) (pw_and1 (PW.pt (pw_or (pt_cmpR op_ne (pv 2) (pe_glob (v := .str (Str.ofString "?")) (by rfl) Z.g_ANY_LETTER ⟨_, rfl⟩) (nomark _)) (pw_or1 (pt_not (pt_val (pe_call G_is_letter hr (by rfl) g_is_letter F_is_letter.kp b_is_letter .nil pass0 (pa_cons (pv 3) pa_nil))))))))))
       (pss_one (ps_ret pe_bl))
       pss_nil)))
      (pss_one (ps_ret pe_bl))), ?_⟩
    refine ⟨.str a, rfl, .str b, rfl, a, b, rfl, ?_⟩
    have hn : min a.cps.size b.cps.size = min (tl a).length (tl b).length := by simp [tl]
    refine for_zipS (min a.cps.size b.cps.size) rfl (fun i σ H' => ∃ y2 y3, σ = [some (.str a), some (.str b), y2, y3] ∧ Same H H' ∧ saysZ (tl a) (tl b) = saysZ ((tl a).drop i) ((tl b).drop i)) ⟨none, none, rfl, Same.refl _, rfl⟩ ?_ ?_
    · rintro i c d T σ H' hi hc hd ⟨y2, y3, rfl, sm, hs⟩ nT
      have hc' : (tl a)[i]? = some c := by simpa [tl] using hc
      have hd' : (tl b)[i]? = some d := by simpa [tl] using hd
      have hk := says_drop hc' hd'
      refine ⟨T, _, rfl, SqT.of upd_same, rfl, .str ⟨#[c]⟩, _, rfl, .str ⟨#[d]⟩, _, rfl, rfl, ?_⟩
      have go : okc c d = true → ∃ y2 y3, ([some (V.str a), some (V.str b), some (V.str ⟨#[c]⟩), some (V.str ⟨#[d]⟩)] : L2.St) = [some (.str a), some (.str b), y2, y3] ∧ Same H (upd H' T (.tup [.str ⟨#[c]⟩, .str ⟨#[d]⟩])) ∧ saysZ (tl a) (tl b) = saysZ ((tl a).drop (i + 1)) ((tl b).drop (i + 1)) := fun ho => ⟨_, _, rfl, same_new2 sm nT, by rw [hs, hk, ho, Bool.true_and]⟩
      have no : okc c d = false → Q (.bl false) (upd H' T (.tup [.str ⟨#[c]⟩, .str ⟨#[d]⟩])) := fun ho => by
        have h := q _ (same_new2 (o := .tup [.str ⟨#[c]⟩, .str ⟨#[d]⟩]) sm nT)
        rw [hs, hk, ho, Bool.false_and] at h; exact h
      refine ⟨.str ⟨#[c]⟩, rfl, .str ⟨#[d]⟩, rfl, rfl, _, rfl, ?_⟩
      rw [eqS]
      refine ite2 (fun h1 => ?_) (fun h1 => go (by unfold okc; simp at h1; simp [h1]))
      have f1 : ¬ c = d := by simpa using h1
      refine ⟨.str ⟨#[c]⟩, rfl, rfl, _, rfl, ?_⟩
      rw [eQ, eqS]
      refine ite2 (fun h2 => iteT (no ?_)) (fun h2 => ⟨.str ⟨#[d]⟩, rfl, d, rfl, _, rfl, ?_⟩)
      · have f2 : ¬ c = 63 := by simpa using h2
        unfold okc; simp [f1, f2]
      · have f2 : c = 63 := by simpa using h2
        refine ite2 (fun h3 => no ?_) (fun h3 => go ?_)
        · have f3 : isL d = false := by simpa using h3
          unfold okc; simp [f1, f3]
        · have f3 : isL d = true := by simpa using h3
          unfold okc; simp [f2, f3]
    · rintro σ H' ⟨y2, y3, rfl, sm, hs⟩
      have h := q H' sm
      rw [hs, says_end hn] at h
      exact h
/-! ### _fits -/
def spFits : Sp := fun vs H Q _ => ∃ (t : Addr) (l r wd : Str) (b : Bool) (g : Nat), vs = [.ref t, .str wd, .int (g : Int)] ∧ H t = some (.tup [.str l, .str r, .bl b]) ∧ l.length ≤ 3 ∧ r.length ≤ 3 ∧ wd.length ≤ 100 ∧ g ≤ wd.length ∧ ∀ H', Same H H' → Q (.bl (fitsB (tl l) (tl r) (tl wd) g)) H'
theorem scFits : FnScope ["row", "word", "gap", "left", "right", "_", "before", "behind"] ["row", "word", "gap"] (defScope sFits) := ⟨rfl, rfl, rfl, by decide +kernel, rfl, by decide +kernel, by decide +kernel⟩
theorem ok_fits {f f_is_letter f_says : Addr} {fd fd_is_letter fd_says : FuncData} (B : Blt mg) (Z : Cst mg t1 t2 t3 t4 t5) (F : Fun K "_fits" "_fits" sFits f fd)
    (F_is_letter : Fun K "is_letter" "is_letter" sLetter f_is_letter fd_is_letter) (b_is_letter : Binds K fd_is_letter ["char"] []) (g_is_letter : mg "is_letter" = some (.ref f_is_letter))
    (F_says : Fun K "_says" "_says" sSays f_says fd_says) (b_says : Binds K fd_says ["part", "text"] []) (g_says : mg "_says" = some (.ref f_says)) :
    FnOk P w K mg base CX0 3 f fd ["row", "word", "gap"] spFits := by
  have G_says : FnOk P w K mg base CX0 2 f_says fd_says ["part", "text"] spSays := ok_says B Z F_says F_is_letter b_is_letter g_is_letter
  refine F.ok scFits (fun vs H Q E h => ?_) (fun cdv A0 outer s H vs Q E hr h => ?_)
  · obtain ⟨t, l, r, wd, b, g, rfl, _⟩ := h; rfl
  · obtain ⟨t, l, r, wd, b, g, rfl, ht, hl, hrl, hw, hg, q⟩ := h
    refine ⟨_, (pss_cons (ps_asg (pv 0) (pg_tup rfl (pgs_cons (pg_name (i := 3) scFits.nd rfl (.inl rfl)) (pgs_cons (pg_name (i := 4) scFits.nd rfl (.inl rfl)) (pgs_cons (pg_name (i := 5) scFits.nd rfl (.inl rfl)) pgs_nil)))))
      (pss_cons (ps_set (i := 6) scFits.nd rfl (.inl rfl) (pe_op op_add_str (pe_glob (v := .str (Str.ofString ".")) (by rfl) Z.g_WORD_END ⟨_, rfl⟩) (pe_slice sl_str (pv 1) po_none (po_some (pv 2)))))
      (pss_cons (ps_set (i := 7) scFits.nd rfl (.inl rfl) (pe_op op_add_str (pe_slice sl_str (pv 1) (po_some (pv 2)) po_none) (pe_glob (v := .str (Str.ofString ".")) (by rfl) Z.g_WORD_END ⟨_, rfl⟩)))
      (pss_cons (ps_if (PW.pt (pw_or (pt_cmpR op_gt (pe_callB call_len (by rfl) B.len PySem.boot_len (pa_cons (pv 3) pa_nil)) (pe_callB call_len (by rfl) B.len PySem.boot_len (pa_cons (pv 6) pa_nil)) (nomark _)) (pw_or1 (pt_cmpR op_gt (pe_callB call_len (by rfl) B.len PySem.boot_len (pa_cons (pv 4) pa_nil)) (pe_callB call_len (by rfl) B.len PySem.boot_len (pa_cons (pv 7) pa_nil)) (nomark _)))))
      (pss_one (ps_ret pe_bl))
      pss_nil)
      (pss_one (ps_ret (pe_and (pe_call G_says hr (by rfl) g_says F_says.kp b_says .nil pass0 (pa_cons (pv 3) (pa_cons (pe_slice sl_str (pv 6) (po_some (pe_op op_sub (pe_callB call_len (by rfl) B.len PySem.boot_len (pa_cons (pv 6) pa_nil)) (pe_callB call_len (by rfl) B.len PySem.boot_len (pa_cons (pv 3) pa_nil)))) po_none) pa_nil))) (pe_one (pe_call G_says hr (by rfl) g_says F_says.kp b_says .nil pass0 (pa_cons (pv 4) (pa_cons (pe_slice sl_str (pv 7) po_none (po_some (pe_callB call_len (by rfl) B.len PySem.boot_len (pa_cons (pv 4) pa_nil)))) pa_nil))))))))))), ?_⟩
    have hsl : wd.length ≤ sizeLine := Nat.le_trans hw (by decide)
    have edl : (Str.ofString ".").length = 1 := by decide +kernel
    have etd : tl (Str.ofString ".") = [46] := by decide +kernel
    have eA : tl (cutS wd none (some (g : Int))) = (tl wd).take g := cut_to wd g
    have eB : tl (cutS wd (some (g : Int)) none) = (tl wd).drop g := cut_from wd g
    generalize hA : cutS wd none (some (g : Int)) = A at eA
    generalize hB : cutS wd (some (g : Int)) none = Bh at eB
    have lA : A.length ≤ 100 := by rw [← hA]; exact Nat.le_trans (cutS_length _ _ _) hw
    have lB : Bh.length ≤ 100 := by rw [← hB]; exact Nat.le_trans (cutS_length _ _ _) hw
    have eA2 : A.length = ((tl wd).take g).length := by rw [← eA, tl_len]
    have eB2 : Bh.length = ((tl wd).drop g).length := by rw [← eB, tl_len]
    have line : ∀ n : Nat, n ≤ 300 → n ≤ sizeLine := fun n h => Nat.le_trans h (by decide)
    refine ⟨.ref t, rfl, t, _, rfl, SqT.of ht, rfl, .str l, _, rfl, .str r, _, rfl, .bl b, _, rfl, rfl, ?_⟩
    refine ⟨.str wd, rfl, .int (g : Int), rfl, _, rfl, wd, rfl, hsl, ?_⟩
    rw [hA]
    refine ⟨_, _, rfl, rfl, line _ (by rw [edl]; omega), ?_⟩
    refine ⟨.str wd, rfl, .int (g : Int), rfl, _, rfl, wd, rfl, hsl, ?_⟩
    rw [hB]
    refine ⟨_, _, rfl, rfl, line _ (by rw [edl]; omega), ?_⟩
    have lb1 : (Str.ofString "." ++ A).length = A.length + 1 := by rw [len_add, edl, Nat.add_comm]
    have lb2 : (Bh ++ Str.ofString ".").length = Bh.length + 1 := by rw [len_add, edl]
    have el := tl_len l; have er := tl_len r
    refine ⟨.str l, rfl, .str l, l.length, rfl, ⟨line _ (by omega), rfl⟩, .str (Str.ofString "." ++ A), rfl, .str (Str.ofString "." ++ A), _, rfl, ⟨line _ (by omega), rfl⟩, _, _, rfl, rfl, _, rfl, ?_⟩
    have no : fitsB (tl l) (tl r) (tl wd) g = false → Q (.bl false) H := fun e => by have h := q H (Same.refl _); rw [e] at h; exact h
    have d1 : decide (((Str.ofString "." ++ A).length : Int) < (l.length : Int)) = decide (((tl wd).take g).length + 1 < (tl l).length) := by rw [lb1, eA2, el]; exact decide_eq_decide.mpr ⟨fun h => by omega, fun h => by omega⟩
    have d2 : decide (((Bh ++ Str.ofString ".").length : Int) < (r.length : Int)) = decide (((tl wd).drop g).length + 1 < (tl r).length) := by rw [lb2, eB2, er]; exact decide_eq_decide.mpr ⟨fun h => by omega, fun h => by omega⟩
    refine ite2 (fun h1 => iteT (no ?_)) (fun h1 => ⟨.str r, rfl, .str r, r.length, rfl, ⟨line _ (by omega), rfl⟩, .str (Bh ++ Str.ofString "."), rfl, .str (Bh ++ Str.ofString "."), _, rfl, ⟨line _ (by omega), rfl⟩, _, _, rfl, rfl, _, rfl, ite2 (fun h2 => no ?_) (fun h2 => ?_)⟩)
    · unfold fitsB
      rw [← d1, h1]; rfl
    · unfold fitsB
      rw [← d2, h2, Bool.or_true]; rfl
    have f1 : decide (((tl wd).take g).length + 1 < (tl l).length) = false := by rw [← d1]; simpa using h1
    have f2 : decide (((tl wd).drop g).length + 1 < (tl r).length) = false := by rw [← d2]; simpa using h2
    have g1 : (tl l).length ≤ ((tl wd).take g).length + 1 := by have := of_decide_eq_false f1; omega
    have e3 : ((((Str.ofString "." ++ A).length : Nat) : Int) - (l.length : Int)) = ((((tl wd).take g).length + 1 - (tl l).length : Nat) : Int) := by rw [lb1, eA2, el]; omega
    refine ⟨.str l, rfl, .str (Str.ofString "." ++ A), rfl, .str (Str.ofString "." ++ A), rfl, .str (Str.ofString "." ++ A), _, rfl, ⟨line _ (by omega), rfl⟩, .str l, rfl, .str l, l.length, rfl, ⟨line _ (by omega), rfl⟩, _, _, rfl, rfl, _, congrArg V.int e3, _, rfl, line _ (by omega), l, _, rfl, fun H2 s2 => ?_⟩
    rw [cut_from, tl_add, etd, eA]
    have fb : fitsB (tl l) (tl r) (tl wd) g = (saysZ (tl l) ((46 :: (tl wd).take g).drop (((tl wd).take g).length + 1 - (tl l).length)) && saysZ (tl r) (((tl wd).drop g ++ [46]).take (tl r).length)) := by
      unfold fitsB
      rw [f1, f2]; rfl
    rw [show ([46] ++ (tl wd).take g) = 46 :: (tl wd).take g from rfl]
    cases es : saysZ (tl l) ((46 :: (tl wd).take g).drop (((tl wd).take g).length + 1 - (tl l).length)) with
    | false =>
      rw [es, Bool.false_and] at fb
      have h := q H2 s2
      rw [fb] at h
      exact ⟨_, rfl, iteF h⟩
    | true =>
      rw [es, Bool.true_and] at fb
      refine ⟨_, rfl, iteT ⟨.str r, rfl, .str (Bh ++ Str.ofString "."), rfl, .str r, rfl, .str r, r.length, rfl, ⟨line _ (by omega), rfl⟩, _, rfl, _, rfl, line _ (by omega), r, _, rfl, fun H3 s3 => ?_⟩⟩
      rw [cut_to, tl_add, etd, eB, ← er, ← fb]
      exact q H3 (s2.trans s3)
end
end K31

set_option maxRecDepth 100000
set_option maxHeartbeats 4000000
namespace K31
open PySem PySem.Spec PyProof.Rows L2 RJ
abbrev Rw := Str × Str × Bool
structure Good (x : Rw) : Prop where
  l : x.1.length ≤ 3
  r : x.2.1.length ≤ 3
  pl : PartOk 0 (tl x.1)
  pr : PartOk ((x.2.1.length : Int) - 1) (tl x.2.1)
def TupAt (H : Hp) (v : V) (x : Rw) : Prop := ∃ t, v = .ref t ∧ H t = some (.tup [.str x.1, .str x.2.1, .bl x.2.2])
def RowsL (H : Hp) (vs : List V) (xs : List Rw) : Prop := vs.length = xs.length ∧ ∀ (i : Nat) (v : V) (x : Rw), vs[i]? = some v → xs[i]? = some x → TupAt H v x
theorem TupAt.mono {H H' : Hp} {v : V} {x : Rw} (h : TupAt H v x) (s : ∀ a ys, H a = some (.tup ys) → H' a = some (.tup ys)) : TupAt H' v x := let ⟨t, e, h⟩ := h; ⟨t, e, s _ _ h⟩
theorem RowsL.mono {H H' : Hp} {vs : List V} {xs : List Rw} (h : RowsL H vs xs) (s : ∀ a ys, H a = some (.tup ys) → H' a = some (.tup ys)) : RowsL H' vs xs := ⟨h.1, fun i v x a b => (h.2 i v x a b).mono s⟩
theorem RowsL.same {H H' : Hp} {vs : List V} {xs : List Rw} (h : RowsL H vs xs) (s : Same H H') : RowsL H' vs xs := h.mono fun a ys e => s _ _ e
theorem RowsL.nil {H : Hp} : RowsL H [] [] := ⟨rfl, fun i v c a _ => by simp at a⟩
theorem RowsL.snoc {H : Hp} {vs : List V} {cs : List Rw} {v : V} {c : Rw} (h : RowsL H vs cs) (hv : TupAt H v c) : RowsL H (vs ++ [v]) (cs ++ [c]) := by
  obtain ⟨hl, hi⟩ := h
  refine ⟨by simp [hl], fun i w d a b => ?_⟩
  by_cases hlt : i < vs.length
  · rw [List.getElem?_append_left hlt] at a
    rw [List.getElem?_append_left (by omega)] at b
    exact hi i w d a b
  · rw [List.getElem?_append_right (by omega)] at a
    rw [List.getElem?_append_right (by omega)] at b
    have e : i - vs.length = 0 := by
      have := (List.getElem?_eq_some_iff.mp a).1
      simp at this; omega
    rw [e] at a
    rw [show i - cs.length = 0 by omega] at b
    simp at a b; subst a b; exact hv
theorem RowsL.get {H : Hp} {vs : List V} {cs : List Rw} (h : RowsL H vs cs) {i : Nat} {v : V} (hv : vs[i]? = some v) : ∃ c, cs[i]? = some c ∧ TupAt H v c := by
  have hlt : i < cs.length := by have := (List.getElem?_eq_some_iff.mp hv).1; have := h.1; omega
  exact ⟨cs[i], by simp [hlt], h.2 i v _ hv (by simp [hlt])⟩
/-- the first that does -/
def first {α : Type} (f : α → Bool) : List α → Nat → Option Nat
  | [], _ => none
  | x :: xs, i => if f x = true then some i else first f xs (i + 1)
theorem first_some {α : Type} {f : α → Bool} {x : α} : ∀ {xs : List α} {i k : Nat}, (∀ j y, j < i → xs[j]? = some y → f y = false) → xs[i]? = some x → f x = true → first f xs k = some (k + i)
  | [], i, k, _, h, _ => by simp at h
  | y :: ys, 0, k, _, h, hx => by simp at h; subst h; unfold first; rw [if_pos hx]; rfl
  | y :: ys, i + 1, k, hn, h, hx => by
    unfold first
    rw [if_neg (by rw [hn 0 y (by omega) rfl]; exact Bool.false_ne_true), first_some (i := i) (fun j z hj hz => hn (j + 1) z (by omega) (by simpa using hz)) (by simpa using h) hx]
    congr 1; omega
theorem first_none {α : Type} {f : α → Bool} : ∀ {xs : List α} {k : Nat}, (∀ (j : Nat) y, xs[j]? = some y → f y = false) → first f xs k = none
  | [], k, _ => rfl
  | y :: ys, k, hn => by
    unfold first
    rw [if_neg (by rw [hn 0 y rfl]; exact Bool.false_ne_true), first_none fun j z hz => hn (j + 1) z (by simpa using hz)]
def ov : Option Nat → V
  | none => .non
  | some k => .int (k : Int)
/-- what decides -/
def dec (xs : List Rw) (w : List Nat) (g : Nat) : Option Nat := first (fun x => fitsB (tl x.1) (tl x.2.1) w g) xs 0
/-- a Joints at p with these lines and rows -/
structure FsOk (fs : List (Str × V)) (l1 l2 : Addr) : Prop where
  li : fs.lookup ("_lines" : Str) = some (.ref l1)
  ro : fs.lookup ("_rows" : Str) = some (.ref l2)
  de : fs.lookup ("decider" : Str) = none
  ij : fs.lookup ("is_joint" : Str) = none
  ga : fs.lookup ("gaps" : Str) = none
def JAt (C : Addr) (H : Hp) (p l1 l2 : Addr) (zs : List Str) (xs : List Rw) : Prop := ∃ dx fs us, H p = some (.ins C dx fs) ∧ FsOk fs l1 l2 ∧ H l1 = some (.lst (zs.map V.str)) ∧ H l2 = some (.lst us) ∧ RowsL H us xs
theorem JAt.same {C : Addr} {H H' : Hp} {p l1 l2 : Addr} {zs : List Str} {xs : List Rw} (h : JAt C H p l1 l2 zs xs) (s : Same H H') : JAt C H' p l1 l2 zs xs :=
  let ⟨dx, fs, us, h1, h2, h3, h4, h5⟩ := h; ⟨dx, fs, us, s _ _ h1, h2, s _ _ h3, s _ _ h4, h5.same s⟩
structure Txt (K : PySem.W.Frag) (mg : Str → Option Value) (C : Addr) : Prop where
  cl : Cls K C
  nL : NoAttr K C "_lines"
  nR : NoAttr K C "_rows"
  mgC : mg "Joints" = some (.ref C)
section
variable {P : Program} {w : World} {K : PySem.W.Frag} {mg : Str → Option Value} {base : Heap} {t1 t2 t3 t4 t5 : Tok}
/-! ### Joints.__init__ -/
def spInit (C : Addr) : Sp := fun vs H Q _ => ∃ (p dx a : Addr) (zs : List Str) (xs : List Rw), vs = [.ref p, .ref a] ∧ H p = some (.ins C dx []) ∧ H a = some (.lst (zs.map V.str)) ∧ zs.length ≤ 8 ∧ zs.length = xs.length ∧
  (∀ (i : Nat) z x, zs[i]? = some z → xs[i]? = some x → tl z = wrt (tl x.1) (tl x.2.1) x.2.2 ∧ Good x) ∧
  ∀ H' l1 l2, (∀ b o, b ≠ p → H b = some o → H' b = some o) → H l1 = none → H l2 = none → JAt C H' p l1 l2 zs xs → Q .non H'
theorem scInit : FnScope ["self", "lines", "line"] ["self", "lines"] (defScope sInit) := ⟨rfl, rfl, rfl, by decide +kernel, rfl, by decide +kernel, by decide +kernel⟩
theorem ok_init {C f f_is_letter f_is_part f_read_joint : Addr} {fd fd_is_letter fd_is_part fd_read_joint : FuncData} (B : Blt mg) (Z : Cst mg t1 t2 t3 t4 t5) (T : Txt K mg C) (F : Fun K "__init__" "Joints.__init__" sInit f fd)
    (F_is_letter : Fun K "is_letter" "is_letter" sLetter f_is_letter fd_is_letter) (b_is_letter : Binds K fd_is_letter ["char"] []) (g_is_letter : mg "is_letter" = some (.ref f_is_letter))
    (F_is_part : Fun K "_is_part" "_is_part" sPart f_is_part fd_is_part) (b_is_part : Binds K fd_is_part ["text", "end"] []) (g_is_part : mg "_is_part" = some (.ref f_is_part))
    (F_read_joint : Fun K "_read_joint" "_read_joint" sRead f_read_joint fd_read_joint) (b_read_joint : Binds K fd_read_joint ["line"] []) (g_read_joint : mg "_read_joint" = some (.ref f_read_joint)) :
    FnOk P w K mg base CX0 4 f fd ["self", "lines"] (spInit C) := by
  have G_read_joint : FnOk P w K mg base CX0 3 f_read_joint fd_read_joint ["line"] spRead := ok_read B Z F_read_joint F_is_letter b_is_letter g_is_letter F_is_part b_is_part g_is_part
  refine F.ok scInit (fun vs H Q E h => ?_) (fun cdv A0 outer s H vs Q E hr h => ?_)
  · obtain ⟨p, dx, a, zs, xs, rfl, _⟩ := h; rfl
  · obtain ⟨p, dx, a, zs, xs, rfl, hp, ha, h8, hlx, hall, q⟩ := h
    refine ⟨_, (pss_cons (ps_if (pt_cmpR op_gt (pe_callB call_len (by rfl) B.len PySem.boot_len (pa_cons (pv 1) pa_nil)) (pe_glob (v := .int 8) (by rfl) Z.g_MOST_JOINT_ROWS ⟨_, rfl⟩) (nomark _))
      (pss_one ps_never)
      pss_nil)
      (pss_cons (ps_fld (pv 0) (pe_callTy call_list_of (by rfl) B.list (by decide +kernel) (pa_cons (pv 1) pa_nil)) rfl)
      (pss_one (ps_fld (pv 0) (pe_lc (own := [("line", 2)]) (g := gName 2) (tt := tYes) rfl scInit.nd (pi_list (pv 1)) (blkOk_by (N := ["self", "lines", "line"]) (sc := defScope sInit) (by decide +kernel)) (fun _ _ _ _ _ => (pg_name (i := 2) scInit.nd rfl (.inl rfl))) (fun _ _ _ _ _ => pts_nil) (fun _ _ _ _ _ => (pe_call G_read_joint hr (by rfl) g_read_joint F_read_joint.kp b_read_joint .nil pass0 (pa_cons (pv 2) pa_nil)))) rfl)))), ?_⟩
    have npa : a ≠ p := ne_of ha hp (by intro z; cases z)
    refine ⟨.ref a, rfl, .ref a, (zs.map V.str).length, rfl, .inl ⟨_, SqL.of ha, rfl⟩, _, 8, rfl, rfl, _, rfl, ?_⟩
    rw [decide_eq_false (by rw [List.length_map]; omega)]
    refine iteF ⟨.ref a, rfl, a, _, rfl, .inl (SqL.of ha), fun l1 nl1 => ?_⟩
    have npl1 : p ≠ l1 := ne_of_none hp nl1
    have s1 : Same H (upd H l1 (.lst (zs.map V.str))) := same_new nl1
    refine ⟨.ref p, rfl, p, C, dx, [], rfl, s1 _ _ hp, T.cl, T.nL, (by show 0 < 1000; decide), ?_⟩
    have k1 : ∀ b o, b ≠ p → H b = some o → upd (upd H l1 (.lst (zs.map V.str))) p (.ins C dx (putF "_lines" (.ref l1) [])) b = some o := fun b o h e => by rw [upd_ne h]; exact s1 _ _ e
    have hp1 : upd (upd H l1 (.lst (zs.map V.str))) p (.ins C dx (putF "_lines" (.ref l1) [])) p = some (.ins C dx (putF "_lines" (.ref l1) [])) := upd_same
    have nn1 : ∀ b, upd (upd H l1 (.lst (zs.map V.str))) p (.ins C dx (putF "_lines" (.ref l1) [])) b = none → H b = none := fun b e => by
      by_cases hb : b = p
      · rw [hb, upd_same] at e; cases e
      · rw [upd_ne hb] at e; exact s1.free e
    have hl1 : upd (upd H l1 (.lst (zs.map V.str))) p (.ins C dx (putF "_lines" (.ref l1) [])) l1 = some (.lst (zs.map V.str)) := by rw [upd_ne (Ne.symm npl1), upd_same]
    generalize upd (upd H l1 (.lst (zs.map V.str))) p (.ins C dx (putF "_lines" (.ref l1) [])) = H1 at k1 hp1 nn1 hl1 ⊢
    have ha1 := k1 _ _ npa ha
    refine ⟨.ref a, rfl, a, rfl, ⟨_, SqL.of ha1⟩, fun D hD => ?_⟩
    refine lc_list (K := K) (a := a) (xs := zs.map V.str) (fun i H' => ∃ us, H' D = some (.lst us) ∧ us.length = i ∧ RowsL H' us (xs.take i) ∧ Same H1 H')
      ⟨[], upd_same, rfl, RowsL.nil, same_new hD⟩ (fun i H' _ ⟨_, _, _, _, s⟩ => SqL.of (s _ _ ha1)) ?_ ?_
    · rintro i x H' hi ⟨us, hD', hl, hrow, sm⟩
      rw [List.getElem?_map] at hi
      cases en : zs[i]? with
      | none => rw [en] at hi; cases hi
      | some z =>
        rw [en] at hi; cases hi
        have hilt := (List.getElem?_eq_some_iff.mp en).1
        have hxi : xs[i]? = some (xs[i]'(by omega)) := by simp
        obtain ⟨ew, gd⟩ := hall i z _ en hxi
        refine ⟨rfl, .str z, rfl, z, _, _, _, rfl, ew, gd.l, gd.r, gd.pl, gd.pr, fun H2 t s2 ht => ⟨us, s2 _ _ hD', ?_, us ++ [.ref t], upd_same, by rw [List.length_append, hl]; rfl, ?_, ?_⟩⟩
        · exact small1000 (by omega)
        · have st : ∀ a ys, H' a = some (.tup ys) → upd H2 D (.lst (us ++ [.ref t])) a = some (.tup ys) := fun a ys e => by
            rw [upd_ne (ne_of e hD' (by intro z; cases z))]; exact s2 _ _ e
          have e3 : xs.take (i + 1) = xs.take i ++ [xs[i]'(by omega)] := by rw [List.take_add_one, hxi]; rfl
          rw [e3]
          refine (hrow.mono st).snoc ⟨t, rfl, ?_⟩
          rw [upd_ne (ne_of ht (s2 _ _ hD') (by intro z; cases z))]; exact ht
        · exact same_at (sm.trans s2) hD
    · rintro H' ⟨us, hD', hl, hrow, sm⟩
      rw [List.length_map] at hl hrow
      rw [hlx, List.take_length] at hrow
      refine ⟨.ref p, rfl, p, C, dx, _, rfl, sm _ _ hp1, T.cl, T.nR, (by show 1 < 1000; decide), ?_⟩
      have npD : D ≠ p := Ne.symm (ne_of_none hp1 hD)
      refine q _ l1 D (fun b o h e => by rw [upd_ne h]; exact sm _ _ (k1 _ _ h e)) nl1 (nn1 _ hD) ⟨dx, _, us, upd_same, ⟨?_, ?_, ?_, ?_, ?_⟩, by rw [upd_ne (Ne.symm npl1)]; exact sm _ _ hl1, by rw [upd_ne npD]; exact hD', hrow.mono fun a ys e => ?_⟩
      · rw [lookup_putF, if_neg (by decide +kernel), lookup_putF, if_pos rfl]
      · rw [lookup_putF, if_pos rfl]
      · rw [lookup_putF, if_neg (by decide +kernel), lookup_putF, if_neg (by decide +kernel)]; rfl
      · rw [lookup_putF, if_neg (by decide +kernel), lookup_putF, if_neg (by decide +kernel)]; rfl
      · rw [lookup_putF, if_neg (by decide +kernel), lookup_putF, if_neg (by decide +kernel)]; rfl
      · rw [upd_ne (ne_of e (sm _ _ hp1) (by intro z; cases z))]; exact e
/-! ### Joints.decider -/
def spDec (C : Addr) : Sp := fun vs H Q _ => ∃ (p l1 l2 : Addr) (wd : Str) (g : Nat) (zs : List Str) (xs : List Rw), vs = [.ref p, .str wd, .int (g : Int)] ∧ JAt C H p l1 l2 zs xs ∧ (∀ x ∈ xs, Good x) ∧ wd.length ≤ 100 ∧ g ≤ wd.length ∧ ∀ H', Same H H' → Q (ov (dec xs (tl wd) g)) H'
theorem scDec : FnScope ["self", "word", "gap", "index", "row"] ["self", "word", "gap"] (defScope sDec) := ⟨rfl, rfl, rfl, by decide +kernel, rfl, by decide +kernel, by decide +kernel⟩
theorem ok_dec {C f f_is_letter f_says f_fits : Addr} {fd fd_is_letter fd_says fd_fits : FuncData} (B : Blt mg) (Z : Cst mg t1 t2 t3 t4 t5) (T : Txt K mg C) (F : Fun K "decider" "Joints.decider" sDec f fd)
    (F_is_letter : Fun K "is_letter" "is_letter" sLetter f_is_letter fd_is_letter) (b_is_letter : Binds K fd_is_letter ["char"] []) (g_is_letter : mg "is_letter" = some (.ref f_is_letter))
    (F_says : Fun K "_says" "_says" sSays f_says fd_says) (b_says : Binds K fd_says ["part", "text"] []) (g_says : mg "_says" = some (.ref f_says))
    (F_fits : Fun K "_fits" "_fits" sFits f_fits fd_fits) (b_fits : Binds K fd_fits ["row", "word", "gap"] []) (g_fits : mg "_fits" = some (.ref f_fits)) :
    FnOk P w K mg base CX0 4 f fd ["self", "word", "gap"] (spDec C) := by
  have G_fits : FnOk P w K mg base CX0 3 f_fits fd_fits ["row", "word", "gap"] spFits := ok_fits B Z F_fits F_is_letter b_is_letter g_is_letter F_says b_says g_says
  refine F.ok scDec (fun vs H Q E h => ?_) (fun cdv A0 outer s H vs Q E hr h => ?_)
  · obtain ⟨p, l1, l2, wd, g, zs, xs, rfl, _⟩ := h; rfl
  · obtain ⟨p, l1, l2, wd, g, zs, xs, rfl, ⟨dx, fs, us, hp, f1, hl1, hl2, hrow⟩, hgd, hw, hg, q⟩ := h
    refine ⟨_, (pss_cons (ps_for (PassesOwn.never) rfl (pi_enum (by rfl) B.enumerate (pa_cons (pe_fld (pv 0) rfl) pa_nil)) (pg_tup rfl (pgs_cons (pg_name (i := 3) scDec.nd rfl (.inl rfl)) (pgs_cons (pg_name (i := 4) scDec.nd rfl (.inl rfl)) pgs_nil)))
      (pss_one (ps_if (pt_val (pe_call G_fits hr (by rfl) g_fits F_fits.kp b_fits .nil pass0 (pa_cons (pv 4) (pa_cons (pv 1) (pa_cons (pv 2) pa_nil)))))
       (pss_one (ps_ret (pv 3)))
       pss_nil)))
      (pss_one (ps_ret pe_non))), ?_⟩
    refine ⟨.ref p, rfl, p, C, dx, fs, _, rfl, hp, T.cl, T.nR, f1.ro, l2, us, rfl, SqL.of hl2, ?_⟩
    refine for_enumL (fun i σ H' => ∃ y3 y4, σ = [some (.ref p), some (.str wd), some (.int (g : Int)), y3, y4] ∧ Same H H' ∧ ∀ (j : Nat) x, j < i → xs[j]? = some x → fitsB (tl x.1) (tl x.2.1) (tl wd) g = false) ⟨none, none, rfl, Same.refl _, fun j x h => absurd h (Nat.not_lt_zero j)⟩ (fun i σ H' ⟨_, _, _, s, _⟩ => SqL.of (s _ _ hl2)) ?_ ?_
    · rintro i v T σ H' hv ⟨y3, y4, rfl, sm, hno⟩ nT
      obtain ⟨x, hx, t, rfl, ht⟩ := hrow.get hv
      have gx := hgd x (List.mem_of_getElem? hx)
      refine ⟨T, _, rfl, SqT.of upd_same, rfl, .int (i : Nat), _, rfl, .ref t, _, rfl, rfl, ?_⟩
      have s2 : Same H (upd H' T (.tup [.int (i : Nat), .ref t])) := same_new2 sm nT
      refine ⟨.ref t, rfl, .str wd, rfl, .int (g : Int), rfl, t, x.1, x.2.1, wd, x.2.2, g, rfl, s2 _ _ ht, gx.l, gx.r, hw, hg, fun H3 s3 => ⟨_, rfl, ite2 (fun h => ?_) (fun h => ?_)⟩⟩
      · have e : dec xs (tl wd) g = some i := by
          have := first_some (k := 0) (f := fun x : Rw => fitsB (tl x.1) (tl x.2.1) (tl wd) g) (fun j y hj hy => hno j y hj hy) hx h
          rw [Nat.zero_add] at this; exact this
        have hq := q H3 (s2.trans s3)
        rw [e] at hq
        exact ⟨.int (i : Nat), rfl, hq⟩
      · refine ⟨_, _, rfl, s2.trans s3, fun j y hj hy => ?_⟩
        by_cases hji : j < i
        · exact hno j y hji hy
        · obtain rfl : j = i := by omega
          rw [hx] at hy; cases hy
          simpa using h
    · rintro σ H' ⟨y3, y4, rfl, sm, hno⟩
      have e : dec xs (tl wd) g = none := first_none fun j y hy => hno j y (by rw [hrow.1]; exact (List.getElem?_eq_some_iff.mp hy).1) hy
      have hq := q H' sm
      rw [e] at hq
      exact hq
end
end K31

set_option maxRecDepth 100000
set_option maxHeartbeats 4000000
namespace K31
open PySem PySem.Spec PyProof.Rows L2 RJ
/-- letters that the law draws from -/
structure Alpha (z : Str) : Prop where
  L : ∀ c ∈ tl z, isL c = true
  lo : 1 ≤ z.length
  hi : z.length ≤ 3
section
variable {P : Program} {w : World} {K : PySem.W.Frag} {mg : Str → Option Value} {base : Heap} {t1 t2 t3 t4 t5 : Tok}
theorem at1 {rs : List Int} {i : Nat} {g : Int} (h : rs[i]? = some g) : (rs.map V.int)[i]? = some (.int g) := by rw [List.getElem?_map, h]; rfl
/-! ### _law_letters -/
def spLetters : Sp := fun vs H Q _ => ∃ (c : Int), vs = [.int c] ∧ ∀ H' z, Same H H' → Alpha z → Q (.str z) H'
abbrev nLe : List Str := ["_law_cell_here", "_law_row_here", "_law_many", "_law_alphabet", "_law_out", "_law_letter", "_law_k"]
theorem scLetters : FnScope nLe ["_law_cell_here"] (defScope sLetters) := ⟨rfl, rfl, rfl, by decide +kernel, rfl, by decide +kernel, by decide +kernel⟩
theorem ok_letters {f f_row : Addr} {fd fd_row : FuncData} (B : Blt mg) (F : Fun K "_law_letters" "_law_letters" sLetters f fd)
    (F_row : Fun K "_law_row" "_law_row" sRow f_row fd_row) (b_row : Binds K fd_row ["_law_cell_here", "_law_limits"] []) (g_row : mg "_law_row" = some (.ref f_row)) :
    FnOk P w K mg base CX0 2 f fd ["_law_cell_here"] spLetters := by
  have G_row : FnOk P w K mg base CX0 1 f_row fd_row ["_law_cell_here", "_law_limits"] (spRow K) := ok_row B F_row
  refine F.ok scLetters (fun vs H Q E h => ?_) (fun cdv A0 outer s H vs Q E hr h => ?_)
  · obtain ⟨c, rfl, _⟩ := h; rfl
  · obtain ⟨c, rfl, q⟩ := h
    refine ⟨_, (pss_cons (ps_set (i := 1) scLetters.nd rfl (.inr rfl) (pe_call G_row hr (by rfl) g_row F_row.kp b_row .nil pass0 (pa_cons (pv 0) (pa_cons (pe_lst (pa_cons pe_int (pa_cons pe_int (pa_cons pe_int (pa_cons pe_int pa_nil))))) pa_nil))))
      (pss_cons (ps_set (i := 2) scLetters.nd rfl (.inl rfl) pe_int)
      (Evl.pss_cut (ps_if (pt_cmpR op_lt (pe_ix ix_list (pv 1) pe_int (fun _ _ => rfl)) pe_int (nomark _))
      (pss_one (ps_set (i := 2) scLetters.nd rfl (.inl rfl) (pe_op op_add pe_int (pe_op op_mul pe_int (pe_ix ix_list (pv 1) pe_int (fun _ _ => rfl))))))
      pss_nil)
      (pss_cons (ps_set (i := 3) scLetters.nd rfl (.inr rfl) pe_str)
      (pss_cons (ps_set (i := 4) scLetters.nd rfl (.inl rfl) pe_str)
      (pss_cons (ps_for (PassesOwn.never) rfl (pi_list (pe_callB cr_sortedS (by rfl) B.sorted (by decide +kernel) (pa_cons (pe_lc (own := [("_law_k", 6)]) (g := gName 6) (tt := tYes) rfl scLetters.nd (pi_range1 (by rfl) B.range (pa_cons (pv 2) pa_nil)) (blkOk_by (N := nLe) (sc := defScope sLetters) (by decide +kernel)) (fun _ _ _ _ _ => (pg_name (i := 6) scLetters.nd rfl (.inl rfl))) (fun _ _ _ _ _ => pts_nil) (fun _ _ _ _ _ => (pe_ix ix_str (pv 3) (pe_ix (show IxR _ (rIxL K) from ix_list) (pv 1) (pe_op op_add pe_int (pv 6)) (fun _ _ => rfl)) (fun _ _ => rfl)))) pa_nil))) (pg_name (i := 5) scLetters.nd rfl (.inl rfl))
      (pss_one (ps_if (pt_cmpR op_notIn_sign (pv 5) (pv 4) (by with_unfolding_all rfl))
       (pss_one (ps_set (i := 4) scLetters.nd rfl (.inl rfl) (pe_op op_add_str (pv 4) (pv 5))))
       pss_nil)))
      (pss_one (ps_ret (pv 4))))))))), ?_⟩
    refine ⟨.int c, rfl, (by show 4 ≤ sizeLine; decide), fun l nl => ?_⟩
    refine ⟨c, l, [12, 26, 26, 26], rfl, SqL.of (by rw [upd_same]; rfl), by decide, by decide, fun H1 R rs s1 nR eR hrow => ?_⟩
    have sA : Same H H1 := (same_new nl).trans s1
    obtain ⟨g0, a0, g00, g01⟩ := hrow.2 0 12 rfl
    have row26 : ∀ k : Nat, k < 3 → ∃ g, rs[1 + k]? = some g ∧ 0 ≤ g ∧ g < 26 := fun k hk => hrow.2 (1 + k) 26 (by match k, hk with | 0, _ => rfl | 1, _ => rfl | 2, _ => rfl)
    refine ⟨fun σ H' => ∃ m : Nat, σ = [some (.int c), some (.ref R), some (.int (m : Int)), none, none, none, none] ∧ H1 = H' ∧ 1 ≤ m ∧ m ≤ 3, ?_, ?_⟩
    · refine ⟨.ref R, rfl, R, _, 0, .int g0, rfl, rfl, SqL.of eR, atI_nat (j := 0) (at1 a0), g0, 2, rfl, rfl, _, rfl, ite2 (fun h => ?_) (fun h => ⟨2, rfl, rfl, by decide, by decide⟩)⟩
      have h' : g0 < 2 := of_decide_eq_true h
      refine ⟨.ref R, rfl, R, _, 0, .int g0, rfl, rfl, SqL.of eR, atI_nat (j := 0) (at1 a0), 2, g0, rfl, rfl, .inl ⟨by decide, by decide⟩, 1, _, rfl, rfl, ?_⟩
      refine ⟨(1 + 2 * g0).toNat, ?_, rfl, by omega, by omega⟩
      rw [show (((1 + 2 * g0).toNat : Nat) : Int) = 1 + 2 * g0 by omega]; rfl
    rintro σ _ ⟨m, rfl, rfl, hm1, hm3⟩
    refine ⟨.int (m : Int), rfl, (m : Int), rfl, by omega, by omega, fun D hD => ?_⟩
    rw [Int.toNat_natCast]
    refine lc_range (lo := 0) (n := m) (fun i H' => ∃ cs : List Nat, H' D = some (.lst ((cs.map fun c => (⟨#[c]⟩ : Str)).map V.str)) ∧ cs.length = i ∧ (∀ c ∈ cs, isL c = true) ∧ Same H1 H')
      ⟨[], upd_same, rfl, fun c h => absurd h List.not_mem_nil, same_new hD⟩ ?_ ?_
    · rintro i H' hi ⟨cs, hD', hl, hL, sm⟩
      obtain ⟨g, ag, gg0, gg1⟩ := row26 i (by omega)
      obtain ⟨cch, hc, hcm⟩ := pick (z := letters) gg0 (by rw [letters_len]; exact gg1)
      have e0 : (1 : Int) + (0 + (i : Int)) = ((1 + i : Nat) : Int) := by omega
      refine ⟨rfl, .str letters, rfl, .ref R, rfl, .int (0 + (i : Int)), rfl, 1, _, rfl, rfl, R, _, _, .int g, rfl, rfl, SqL.of (sm _ _ eR), by rw [e0]; exact atI_nat (at1 ag), letters, g, cch, rfl, rfl, by rw [letters_len]; decide, hc, _, hD', ?_, cs ++ [cch], ?_, ?_, ?_, same_at sm hD⟩
      · rw [List.length_map, List.length_map]; exact small1000 (by omega)
      · rw [upd_same, List.map_append, List.map_append]; rfl
      · rw [List.length_append, hl]; rfl
      · intro x hx
        rcases List.mem_append.mp hx with h | h
        · exact hL x h
        · rw [List.mem_singleton.mp h]; exact letters_L _ hcm
    · rintro H' ⟨cs, hD', hl, hL, sm⟩
      refine ⟨D, _, rfl, SqL.of hD', by rw [List.length_map]; omega, fun ys p hperm _ np => ?_⟩
      have hy : ∀ y ∈ ys, ∃ c, y = (⟨#[c]⟩ : Str) ∧ isL c = true := fun y hy => by
        have h1 := hperm.mem_iff.mp hy
        obtain ⟨c, hc, rfl⟩ := List.mem_map.mp h1
        exact ⟨c, rfl, hL c hc⟩
      have hyl : ys.length = m := by rw [hperm.length_eq, List.length_map, hl]
      have s3 : Same H' (upd H' p (.lst (ys.map V.str))) := same_new np
      have e3 : upd H' p (.lst (ys.map V.str)) p = some (.lst (ys.map V.str)) := upd_same
      generalize upd H' p (.lst (ys.map V.str)) = H3 at s3 e3 ⊢
      refine ⟨p, rfl, ⟨_, SqL.of e3⟩, for_list (K := K) (a := p) (xs := ys.map V.str) (fun i σ H'' => ∃ (z : Str) (y5 : Option V), σ = [some (.int c), some (.ref R), some (.int (m : Int)), some (.str letters), some (.str z), y5, none] ∧ H'' = H3 ∧ (∀ c ∈ tl z, isL c = true) ∧ z.length ≤ i ∧ (1 ≤ i → 1 ≤ z.length))
        ⟨Str.ofString "", none, rfl, rfl, by decide +kernel, by decide +kernel, fun h => by omega⟩ (fun i σ H'' _ ⟨_, _, _, e, _⟩ => by rw [e]; exact SqL.of e3) ?_ ?_⟩
      · rintro i x σ H'' hi ⟨z, y5, rfl, rfl, hzL, hzl, hz1⟩
        rw [List.getElem?_map] at hi
        cases en : ys[i]? with
        | none => rw [en] at hi; cases hi
        | some y =>
          rw [en] at hi; cases hi
          have hilt := (List.getElem?_eq_some_iff.mp en).1
          obtain ⟨cc, rfl, hcL⟩ := hy y (List.mem_of_getElem? en)
          refine ⟨.str ⟨#[cc]⟩, rfl, .str z, rfl, cc, z, rfl, rfl, _, rfl, ite2 (fun h => ?_) (fun h => ?_)⟩
          · refine ⟨.str z, rfl, .str ⟨#[cc]⟩, rfl, z, ⟨#[cc]⟩, rfl, rfl, ?_, ?_⟩
            · show z.length + 1 ≤ sizeLine
              exact Nat.le_trans (show z.length + 1 ≤ 10 by omega) (by decide)
            · refine ⟨_, _, rfl, rfl, ?_, by rw [len_add]; show z.length + 1 ≤ i + 1; omega, fun _ => by rw [len_add]; show 1 ≤ z.length + 1; omega⟩
              rw [tl_add]
              intro d hd
              rcases List.mem_append.mp hd with h | h
              · exact hzL d h
              · rw [List.mem_singleton.mp h]; exact hcL
          · refine ⟨z, _, rfl, rfl, hzL, by omega, fun _ => ?_⟩
            have hm : cc ∈ z.cps.toList := by simpa using h
            have : 0 < (tl z).length := List.length_pos_of_mem hm
            rw [tl_len] at this; omega
      · rintro σ H'' ⟨z, y5, rfl, rfl, hzL, hzl, hz1⟩
        rw [List.length_map] at hzl hz1
        exact ⟨.str z, rfl, q _ z (sA.trans (sm.trans s3)) ⟨hzL, hz1 (by omega), by omega⟩⟩
end
end K31

set_option maxRecDepth 100000
set_option maxHeartbeats 4000000
namespace K31
open PySem PySem.Spec PyProof.Rows L2 RJ
def isM (c : Nat) : Prop := isL c = true ∨ c = 63
theorem partM {e : Int} {l : List Nat} (h : ∀ c ∈ l, isM c) : PartOk e l := fun i c hc => by
  rcases h c (List.mem_of_getElem? hc) with h | h
  · exact .inl h
  · exact .inr (.inl h)
theorem part_dot {l : List Nat} (h : ∀ c ∈ l, isM c) : PartOk 0 (46 :: l.drop 1) := fun i c hc => by
  cases i with
  | zero => simp at hc; subst hc; exact .inr (.inr ⟨rfl, rfl⟩)
  | succ i =>
    have hm : c ∈ l := List.mem_of_mem_drop (List.mem_of_getElem? (by simpa using hc))
    rcases h c hm with h | h
    · exact .inl h
    · exact .inr (.inl h)
theorem part_end {l : List Nat} {n : Nat} (h : ∀ c ∈ l, isM c) (hn : l.length = n + 1) : PartOk (n : Int) (l.take n ++ [46]) := fun i c hc => by
  have hl : (l.take n).length = n := by rw [List.length_take]; omega
  by_cases hi : i < n
  · rw [List.getElem?_append_left (by omega)] at hc
    rcases h c (List.mem_of_mem_take (List.mem_of_getElem? hc)) with h | h
    · exact .inl h
    · exact .inr (.inl h)
  · rw [List.getElem?_append_right (by omega), hl] at hc
    have hlt := (List.getElem?_eq_some_iff.mp hc).1
    simp at hlt
    have e : i = n := by omega
    subst e
    simp at hc
    exact .inr (.inr ⟨hc.symm, rfl⟩)
theorem cut_neg1 (z : Str) : tl (cutS z none (some (-1))) = (tl z).take (z.length - 1) := by
  unfold cutS tl
  rw [HT.sIx_none]
  show (z.cps.toList.drop 0).take (HT.sIx z.length z.length (some (-1)) - 0) = _
  rw [List.drop_zero, Nat.sub_zero]
  congr 1
  show (if (-1 : Int) < 0 then ((-1 : Int) + (z.length : Int)).toNat else min (-1 : Int).toNat z.length) = z.length - 1
  rw [if_pos (by decide)]; omega
section
variable {P : Program} {w : World} {K : PySem.W.Frag} {mg : Str → Option Value} {base : Heap} {t1 t2 t3 t4 t5 : Tok}
def lsJ : List Int := [4, 4, 7, 7, 7, 7, 7, 7, 4, 4, 3, 26]
def spJoint : Sp := fun vs H Q _ => ∃ (c sh : Int) (z : Str), vs = [.int c, .str z, .int sh] ∧ Alpha z ∧ ∀ H' t x, Same H H' → H' t = some (.tup [.str x.1, .str x.2.1, .bl x.2.2]) → Good x → Q (.ref t) H'
abbrev nJ : List Str := ["_law_cell_here", "_law_letters_here", "_law_share", "_law_row_here", "_law_alphabet", "_law_menu", "_law_left", "_law_right", "_law_k"]
theorem scJoint : FnScope nJ ["_law_cell_here", "_law_letters_here", "_law_share"] (defScope sJoint) := ⟨rfl, rfl, rfl, by decide +kernel, rfl, by decide +kernel, by decide +kernel⟩
theorem ok_joint {f f_row : Addr} {fd fd_row : FuncData} (B : Blt mg) (F : Fun K "_law_joint" "_law_joint" sJoint f fd)
    (F_row : Fun K "_law_row" "_law_row" sRow f_row fd_row) (b_row : Binds K fd_row ["_law_cell_here", "_law_limits"] []) (g_row : mg "_law_row" = some (.ref f_row)) :
    FnOk P w K mg base CX0 2 f fd ["_law_cell_here", "_law_letters_here", "_law_share"] spJoint := by
  have G_row : FnOk P w K mg base CX0 1 f_row fd_row ["_law_cell_here", "_law_limits"] (spRow K) := ok_row B F_row
  refine F.ok scJoint (fun vs H Q E h => ?_) (fun cdv A0 outer s H vs Q E hr h => ?_)
  · obtain ⟨c, sh, z, rfl, _⟩ := h; rfl
  · obtain ⟨c, sh, z, rfl, hz, q⟩ := h
    refine ⟨_, (pss_cons (ps_set (i := 3) scJoint.nd rfl (.inr rfl) (pe_call G_row hr (by rfl) g_row F_row.kp b_row .nil pass0 (pa_cons (pv 0) (pa_cons (pe_lst (pa_cons pe_int (pa_cons pe_int (pa_cons pe_int (pa_cons pe_int (pa_cons pe_int (pa_cons pe_int (pa_cons pe_int (pa_cons pe_int (pa_cons pe_int (pa_cons pe_int (pa_cons pe_int (pa_cons pe_int pa_nil))))))))))))) pa_nil))))
      (pss_cons (ps_set (i := 4) scJoint.nd rfl (.inl rfl) pe_str)
      (pss_cons (ps_set (i := 5) scJoint.nd rfl (.inr rfl) (pe_op op_add_str (pv 1) (pv 1)))
      (pss_cons (ps_set (i := 5) scJoint.nd rfl (.inr rfl) (pe_op op_add_str (pe_op op_add_str (pe_slice sl_str (pe_op op_add_str (pv 5) (pv 5)) po_none (po_some pe_int)) pe_str) (pe_ix ix_str (pv 4) (pe_ix ix_list (pv 3) pe_int (fun _ _ => rfl)) (fun _ _ => rfl))))
      (pss_cons (ps_set (i := 6) scJoint.nd rfl (.inl rfl) (pe_join pe_str (pe_lc (own := [("_law_k", 8)]) (g := gName 8) (tt := tYes) rfl scJoint.nd (pi_range1 (by rfl) B.range (pa_cons (pe_ix ix_list (pv 3) pe_int (fun _ _ => rfl)) pa_nil)) (blkOk_by (N := nJ) (sc := defScope sJoint) (by decide +kernel)) (fun _ _ _ _ _ => (pg_name (i := 8) scJoint.nd rfl (.inl rfl))) (fun _ _ _ _ _ => pts_nil) (fun _ _ _ _ _ => (pe_ix ix_str (pv 5) (pe_ix (show IxR _ (rIxL K) from ix_list) (pv 3) (pe_op op_add pe_int (pv 8)) (fun _ _ => rfl)) (fun _ _ => rfl))))))
      (pss_cons (ps_set (i := 7) scJoint.nd rfl (.inl rfl) (pe_join pe_str (pe_lc (own := [("_law_k", 8)]) (g := gName 8) (tt := tYes) rfl scJoint.nd (pi_range1 (by rfl) B.range (pa_cons (pe_ix ix_list (pv 3) pe_int (fun _ _ => rfl)) pa_nil)) (blkOk_by (N := nJ) (sc := defScope sJoint) (by decide +kernel)) (fun _ _ _ _ _ => (pg_name (i := 8) scJoint.nd rfl (.inl rfl))) (fun _ _ _ _ _ => pts_nil) (fun _ _ _ _ _ => (pe_ix ix_str (pv 5) (pe_ix (show IxR _ (rIxL K) from ix_list) (pv 3) (pe_op op_add pe_int (pv 8)) (fun _ _ => rfl)) (fun _ _ => rfl))))))
      (Evl.pss_cut (ps_if (PW.pt (pw_and (pt_cmpR op_gt (pe_ix ix_list (pv 3) pe_int (fun _ _ => rfl)) pe_int (nomark _)) (pw_and1 (pt_cmpR op_eq (pe_ix ix_list (pv 3) pe_int (fun _ _ => rfl)) pe_int (nomark _)))))
      (pss_one (ps_set (i := 6) scJoint.nd rfl (.inl rfl) (pe_op op_add_str pe_str (pe_slice sl_str (pv 6) (po_some pe_int) po_none))))
      pss_nil)
      (Evl.pss_cut (ps_if (PW.pt (pw_and (pt_cmpR op_gt (pe_ix ix_list (pv 3) pe_int (fun _ _ => rfl)) pe_int (nomark _)) (pw_and1 (pt_cmpR op_eq (pe_ix ix_list (pv 3) pe_int (fun _ _ => rfl)) pe_int (nomark _)))))
      (pss_one (ps_set (i := 7) scJoint.nd rfl (.inl rfl) (pe_op op_add_str (pe_slice sl_str (pv 7) po_none (po_some (pe_un un_neg pe_int))) pe_str)))
      pss_nil)
      (pss_one (ps_ret (pe_tup (pa_cons (pv 6) (pa_cons (pv 7) (pa_cons (pe_cmpR op_lt (pe_ix ix_list (pv 3) pe_int (fun _ _ => rfl)) (pv 2) (nomark _)) pa_nil)))))))))))))), ?_⟩
    refine ⟨.int c, rfl, (by show 12 ≤ sizeLine; decide), fun l nl => ?_⟩
    refine ⟨c, l, lsJ, rfl, SqL.of (by rw [upd_same]; rfl), by decide, by decide, fun H1 R rs s1 nR eR hrow => ?_⟩
    have sA : Same H H1 := (same_new nl).trans s1
    obtain ⟨g0, a0, g00, g01⟩ := hrow.2 0 4 rfl
    obtain ⟨g1, a1, g10, g11⟩ := hrow.2 1 4 rfl
    obtain ⟨g8, a8, g80, g81⟩ := hrow.2 8 4 rfl
    obtain ⟨g9, a9, g90, g91⟩ := hrow.2 9 4 rfl
    obtain ⟨g10', a10, g100, g101⟩ := hrow.2 10 3 rfl
    obtain ⟨g11', a11, g110, g111⟩ := hrow.2 11 26 rfl
    have row7 : ∀ k : Nat, 2 ≤ k → k < 8 → ∃ g, rs[k]? = some g ∧ 0 ≤ g ∧ g < 7 := fun k h2 hk => hrow.2 k 7 (by match k, h2, hk with | 2, _, _ => rfl | 3, _, _ => rfl | 4, _, _ => rfl | 5, _, _ => rfl | 6, _, _ => rfl | 7, _, _ => rfl)
    obtain ⟨cc, hcc, hccm⟩ := pick (z := letters) g110 (by rw [letters_len]; exact g111)
    have line : ∀ n : Nat, n ≤ 300 → n ≤ sizeLine := fun n h => Nat.le_trans h (by decide)
    have z1 := hz.lo; have z3 := hz.hi
    have l2 : (z ++ z).length = z.length + z.length := len_add _ _
    have l4 : ((z ++ z) ++ (z ++ z)).length = (z ++ z).length + (z ++ z).length := len_add _ _
    refine ⟨.str z, rfl, .str z, rfl, z, z, rfl, rfl, line _ (by omega), .str (z ++ z), rfl, .str (z ++ z), rfl, z ++ z, z ++ z, rfl, rfl, line _ (by omega), _, rfl, _, rfl, line _ (by omega), ?_⟩
    have e4 : tl (cutS ((z ++ z) ++ (z ++ z)) none (some 4)) = (tl ((z ++ z) ++ (z ++ z))).take 4 := cut_to _ 4
    generalize cutS ((z ++ z) ++ (z ++ z)) none (some 4) = M4 at e4 ⊢
    have e4l : M4.length = 4 := by rw [← tl_len, e4, List.length_take, tl_len]; omega
    have e4m : ∀ c ∈ tl M4, isL c = true := fun c hc => by
      rw [e4] at hc
      have h := List.mem_of_mem_take hc
      rw [tl_add, tl_add] at h
      simp only [List.mem_append] at h
      exact hz.L c (by rcases h with (h | h) | (h | h) <;> exact h)
    have eqq : (Str.ofString "??").length = 2 := by decide +kernel
    have eqt : tl (Str.ofString "??") = [63, 63] := by decide +kernel
    have l6 : (M4 ++ Str.ofString "??").length = 6 := by rw [len_add, e4l, eqq]
    refine ⟨M4, Str.ofString "??", rfl, rfl, line _ (by rw [e4l, eqq]; decide), .str letters, rfl, .ref R, rfl, R, _, 11, .int g11', rfl, rfl, SqL.of eR, atI_nat (j := 11) (at1 a11), letters, g11', cc, rfl, rfl, by rw [letters_len]; decide, hcc, _, _, rfl, rfl, line _ (by rw [l6]; show 6 + 1 ≤ 300; decide), ?_⟩
    have eM : ∀ c ∈ tl (M4 ++ Str.ofString "??" ++ ⟨#[cc]⟩), isM c := fun c hc => by
      rw [tl_add, tl_add, eqt] at hc
      simp only [List.mem_append] at hc
      rcases hc with (h | h) | h
      · exact .inl (e4m c h)
      · simp at h; exact .inr h
      · rw [List.mem_singleton.mp h]; exact .inl (letters_L _ hccm)
    have eMl : (M4 ++ Str.ofString "??" ++ ⟨#[cc]⟩).length = 7 := by rw [len_add, l6]; rfl
    generalize M4 ++ Str.ofString "??" ++ ⟨#[cc]⟩ = M at eM eMl ⊢
    have elen : ∀ cs : List Nat, cs.length ≤ 3 → ((cs.map fun c => (⟨#[c]⟩ : Str)).map (·.length)).sum + (cs.map fun c => (⟨#[c]⟩ : Str)).length * (Str.ofString "").length ≤ 16777216 := fun cs h => by
      rw [sum_ones, show (Str.ofString "").length = 0 by decide +kernel, Nat.mul_zero]; omega
    -- left
    refine ⟨⟨_, rfl⟩, .ref R, rfl, R, _, 0, .int g0, rfl, rfl, SqL.of eR, atI_nat (j := 0) (at1 a0), g0, rfl, by omega, by omega, fun D hD => ?_⟩
    refine lc_range (lo := 0) (n := g0.toNat) (fun i H' => ∃ cs : List Nat, H' D = some (.lst ((cs.map fun c => (⟨#[c]⟩ : Str)).map V.str)) ∧ cs.length = i ∧ (∀ c ∈ cs, isM c) ∧ Same H1 H')
      ⟨[], upd_same, rfl, fun c h => absurd h List.not_mem_nil, same_new hD⟩ ?_ ?_
    · rintro i H' hi ⟨cs, hD', hl, hL, sm⟩
      obtain ⟨g, ag, gg0, gg1⟩ := row7 (2 + i) (by omega) (by omega)
      obtain ⟨cch, hc, hcm⟩ := pick (z := M) gg0 (by rw [eMl]; exact gg1)
      have e0 : (2 : Int) + (0 + (i : Int)) = ((2 + i : Nat) : Int) := by omega
      refine ⟨rfl, .str M, rfl, .ref R, rfl, .int (0 + (i : Int)), rfl, 2, _, rfl, rfl, R, _, _, .int g, rfl, rfl, SqL.of (sm _ _ eR), by rw [e0]; exact atI_nat (at1 ag), M, g, cch, rfl, rfl, by rw [eMl]; decide, hc, _, hD', ?_, cs ++ [cch], ?_, ?_, ?_, same_at sm hD⟩
      · rw [List.length_map, List.length_map]; exact small1000 (by omega)
      · rw [upd_same, List.map_append, List.map_append]; rfl
      · rw [List.length_append, hl]; rfl
      · intro x hx
        rcases List.mem_append.mp hx with h | h
        · exact hL x h
        · rw [List.mem_singleton.mp h]; exact eM _ hcm
    rintro H2 ⟨cs, hD', hl, hL, sm⟩
    refine ⟨_, D, _, rfl, rfl, .inl (SqL.of hD'), elen cs (by omega), ?_⟩
    have eJ := join_ones cs
    generalize hJ : Txt.join (Str.ofString "") (cs.map fun c => (⟨#[c]⟩ : Str)) = J at eJ
    have eR2 := sm _ _ eR
    -- right
    refine ⟨⟨_, rfl⟩, .ref R, rfl, R, _, 1, .int g1, rfl, rfl, SqL.of eR2, atI_nat (j := 1) (at1 a1), g1, rfl, by omega, by omega, fun D2 hD2 => ?_⟩
    refine lc_range (lo := 0) (n := g1.toNat) (fun i H' => ∃ ds : List Nat, H' D2 = some (.lst ((ds.map fun c => (⟨#[c]⟩ : Str)).map V.str)) ∧ ds.length = i ∧ (∀ c ∈ ds, isM c) ∧ Same H2 H')
      ⟨[], upd_same, rfl, fun c h => absurd h List.not_mem_nil, same_new hD2⟩ ?_ ?_
    · rintro i H' hi ⟨ds, hD2', hl2, hL2, sm2⟩
      obtain ⟨g, ag, gg0, gg1⟩ := row7 (5 + i) (by omega) (by omega)
      obtain ⟨cch, hc, hcm⟩ := pick (z := M) gg0 (by rw [eMl]; exact gg1)
      have e0 : (5 : Int) + (0 + (i : Int)) = ((5 + i : Nat) : Int) := by omega
      refine ⟨rfl, .str M, rfl, .ref R, rfl, .int (0 + (i : Int)), rfl, 5, _, rfl, rfl, R, _, _, .int g, rfl, rfl, SqL.of (sm2 _ _ eR2), by rw [e0]; exact atI_nat (at1 ag), M, g, cch, rfl, rfl, by rw [eMl]; decide, hc, _, hD2', ?_, ds ++ [cch], ?_, ?_, ?_, same_at sm2 hD2⟩
      · rw [List.length_map, List.length_map]; exact small1000 (by omega)
      · rw [upd_same, List.map_append, List.map_append]; rfl
      · rw [List.length_append, hl2]; rfl
      · intro x hx
        rcases List.mem_append.mp hx with h | h
        · exact hL2 x h
        · rw [List.mem_singleton.mp h]; exact eM _ hcm
    rintro H3 ⟨ds, hD2', hl2, hL2, sm2⟩
    refine ⟨_, D2, _, rfl, rfl, .inl (SqL.of hD2'), elen ds (by omega), ?_⟩
    have eJ2 := join_ones ds
    generalize hJ2 : Txt.join (Str.ofString "") (ds.map fun c => (⟨#[c]⟩ : Str)) = J2 at eJ2
    have eR3 := sm2 _ _ eR2
    have lJ : J.length = cs.length := by rw [← tl_len, eJ]
    have lJ2 : J2.length = ds.length := by rw [← tl_len, eJ2]
    have sB : Same H H3 := sA.trans (sm.trans sm2)
    have edl : (Str.ofString ".").length = 1 := by decide +kernel
    have etd : tl (Str.ofString ".") = [46] := by decide +kernel
    clear hD hD2 hD' hD2'
    -- the dots
    refine ⟨fun σ H' => ∃ L : Str, σ = [some (.int c), some (.str z), some (.int sh), some (.ref R), some (.str letters), some (.str M), some (.str L), some (.str J2), none] ∧ H3 = H' ∧ L.length ≤ 3 ∧ PartOk 0 (tl L), ?_, ?_⟩
    · have keep : J.length ≤ 3 ∧ PartOk 0 (tl J) := ⟨by omega, by rw [eJ]; exact partM hL⟩
      refine ⟨.ref R, rfl, R, _, 0, .int g0, rfl, rfl, SqL.of eR3, atI_nat (j := 0) (at1 a0), g0, 0, rfl, rfl, _, rfl, ite2 (fun h => ⟨.ref R, rfl, R, _, 8, .int g8, rfl, rfl, SqL.of eR3, atI_nat (j := 8) (at1 a8), rfl, _, rfl, ite2 (fun _ => ?_) (fun _ => ⟨J, rfl, rfl, keep⟩)⟩) (fun _ => ⟨J, rfl, rfl, keep⟩)⟩
      have h' : 0 < g0 := of_decide_eq_true h
      have ec : tl (cutS J (some 1) none) = (tl J).drop 1 := cut_from J 1
      have lc : (cutS J (some 1) none).length = cs.length - 1 := by rw [← tl_len, ec, List.length_drop, tl_len, lJ]
      refine ⟨.str J, rfl, _, rfl, J, rfl, line _ (by omega), _, _, rfl, rfl, line _ (by rw [edl, lc]; omega), ?_⟩
      refine ⟨_, rfl, rfl, by rw [len_add, edl, lc]; omega, ?_⟩
      rw [tl_add, etd, ec, eJ]
      exact part_dot hL
    rintro σ _ ⟨L, rfl, rfl, hL3, hLp⟩
    refine ⟨fun σ H' => ∃ Rr : Str, σ = [some (.int c), some (.str z), some (.int sh), some (.ref R), some (.str letters), some (.str M), some (.str L), some (.str Rr), none] ∧ H3 = H' ∧ Rr.length ≤ 3 ∧ PartOk ((Rr.length : Int) - 1) (tl Rr), ?_, ?_⟩
    · have keep : J2.length ≤ 3 ∧ PartOk ((J2.length : Int) - 1) (tl J2) := ⟨by omega, by rw [eJ2]; exact partM hL2⟩
      refine ⟨.ref R, rfl, R, _, 1, .int g1, rfl, rfl, SqL.of eR3, atI_nat (j := 1) (at1 a1), g1, 0, rfl, rfl, _, rfl, ite2 (fun h => ⟨.ref R, rfl, R, _, 9, .int g9, rfl, rfl, SqL.of eR3, atI_nat (j := 9) (at1 a9), rfl, _, rfl, ite2 (fun _ => ?_) (fun _ => ⟨J2, rfl, rfl, keep⟩)⟩) (fun _ => ⟨J2, rfl, rfl, keep⟩)⟩
      have h' : 0 < g1 := of_decide_eq_true h
      obtain ⟨n, hn⟩ : ∃ n, ds.length = n + 1 := ⟨ds.length - 1, by omega⟩
      have ec : tl (cutS J2 none (some (-1))) = (tl J2).take n := by rw [cut_neg1, lJ2, hn]; rfl
      have lc : (cutS J2 none (some (-1))).length = n := by rw [← tl_len, ec, List.length_take, tl_len, lJ2]; omega
      refine ⟨.str J2, rfl, 1, rfl, _, rfl, J2, rfl, line _ (by omega), _, _, rfl, rfl, line _ (by rw [edl, lc]; omega), ?_⟩
      have ll : (cutS J2 none (some (-1)) ++ Str.ofString ".").length = n + 1 := by rw [len_add, edl, lc]
      refine ⟨_, rfl, rfl, by rw [ll]; omega, ?_⟩
      rw [ll, tl_add, etd, ec, eJ2, show ((n + 1 : Nat) : Int) - 1 = (n : Int) by omega]
      exact part_end hL2 hn
    rintro σ _ ⟨Rr, rfl, rfl, hR3, hRp⟩
    refine ⟨.str L, rfl, .str Rr, rfl, .ref R, rfl, R, _, 10, .int g10', rfl, rfl, SqL.of eR3, atI_nat (j := 10) (at1 a10), .int sh, rfl, g10', sh, rfl, rfl, (by show 3 ≤ sizeLine; decide), fun t nt => ?_⟩
    exact q _ t (L, Rr, decide (g10' < sh)) (sB.trans (same_new nt)) upd_same ⟨hL3, hR3, hLp, hRp⟩
/-! ### _law_written -/
def spWritten : Sp := fun vs H Q _ => ∃ (t : Addr) (x : Rw), vs = [.ref t] ∧ H t = some (.tup [.str x.1, .str x.2.1, .bl x.2.2]) ∧ Good x ∧ ∀ z : Str, tl z = wrt (tl x.1) (tl x.2.1) x.2.2 → Q (.str z) H
theorem scWritten : FnScope ["_law_row_here"] ["_law_row_here"] (defScope sWritten) := ⟨rfl, rfl, rfl, by decide +kernel, rfl, by decide +kernel, by decide +kernel⟩
theorem ok_written {f : Addr} {fd : FuncData} (F : Fun K "_law_written" "_law_written" sWritten f fd) : FnOk P w K mg base CX0 1 f fd ["_law_row_here"] spWritten := by
  refine F.ok scWritten (fun vs H Q E h => ?_) (fun cdv A0 outer s H vs Q E hr h => ?_)
  · obtain ⟨t, x, rfl, _⟩ := h; rfl
  · obtain ⟨t, ⟨l, r, b⟩, rfl, ht, gd, q⟩ := h
    refine ⟨_, (pss_cons (ps_if (pt_val (pe_ix ix_tup (pv 0) pe_int (fun _ _ => rfl)))
      (pss_one (ps_ret (pe_op op_add_str (pe_op op_add_str (pe_op op_add_str (pe_ix ix_tup (pv 0) pe_int (fun _ _ => rfl)) pe_str) (pe_ix ix_tup (pv 0) pe_int (fun _ _ => rfl))) pe_str)))
      pss_nil)
      (pss_one (ps_ret (pe_op op_add_str (pe_op op_add_str (pe_ix ix_tup (pv 0) pe_int (fun _ _ => rfl)) pe_str) (pe_ix ix_tup (pv 0) pe_int (fun _ _ => rfl)))))), ?_⟩
    have ht' : H t = some (.tup [.str l, .str r, .bl b]) := ht
    have hl : l.length ≤ 3 := gd.l
    have hrl : r.length ≤ 3 := gd.r
    have line : ∀ n : Nat, n ≤ 300 → n ≤ sizeLine := fun n h => Nat.le_trans h (by decide)
    have ed : (Str.ofString "-").length = 1 := by decide +kernel
    have en : (Str.ofString " no").length = 3 := by decide +kernel
    have etd : tl (Str.ofString "-") = [45] := by decide +kernel
    have etn : tl (Str.ofString " no") = [32, 110, 111] := by decide +kernel
    have l1 : (l ++ Str.ofString "-").length = l.length + 1 := by rw [len_add, ed]
    have l2 : (l ++ Str.ofString "-" ++ r).length = l.length + 1 + r.length := by rw [len_add, l1]
    refine ⟨.ref t, rfl, t, _, 2, .bl b, rfl, rfl, SqT.of ht', atI_nat (j := 2) rfl, b, rfl, ite2 (fun h => ?_) (fun h => ?_)⟩
    · refine ⟨.ref t, rfl, t, _, 0, .str l, rfl, rfl, SqT.of ht', atI_nat (j := 0) rfl, _, _, rfl, rfl, line _ (by rw [ed]; omega), .ref t, rfl, t, _, 1, .str r, rfl, rfl, SqT.of ht', atI_nat (j := 1) rfl, _, _, rfl, rfl, line _ (by rw [l1]; omega), _, _, rfl, rfl, line _ (by rw [l2, en]; omega), q _ ?_⟩
      rw [tl_add, tl_add, tl_add, etd, etn, h]
      simp [wrt, noL]
    · have hb : b = false := by simpa using h
      refine ⟨.ref t, rfl, t, _, 0, .str l, rfl, rfl, SqT.of ht', atI_nat (j := 0) rfl, _, _, rfl, rfl, line _ (by rw [ed]; omega), .ref t, rfl, t, _, 1, .str r, rfl, rfl, SqT.of ht', atI_nat (j := 1) rfl, _, _, rfl, rfl, line _ (by rw [l1]; omega), q _ ?_⟩
      rw [tl_add, tl_add, etd, hb]
      simp [wrt, noL]
end
end K31

set_option maxRecDepth 100000
set_option maxHeartbeats 4000000
namespace K31
open PySem PySem.Spec PyProof.Rows L2 RJ
def okd (w c : Nat) : Bool := decide (w = c) || (decide (w = 63) && !decide (c = 46))
def saysD : List Nat → List Nat → Bool
  | w :: ws, c :: cs => okd w c && saysD ws cs
  | _, _ => true
def lsays (a b : List Nat) : Bool := decide (a.length = b.length) && saysD a b
theorem okd_okc {w c : Nat} (h : isL c = true ∨ c = 46) : okd w c = okc w c := by
  unfold okd okc
  rcases h with h | h
  · have : c ≠ 46 := fun e => by subst e; exact absurd h (by decide)
    rw [h, decide_eq_false this]; rfl
  · subst h; rfl
theorem saysD_Z : ∀ {a b : List Nat}, (∀ c ∈ b, isL c = true ∨ c = 46) → saysD a b = saysZ a b
  | [], _, _ => by cases ‹List Nat› <;> rfl
  | w :: ws, [], _ => rfl
  | w :: ws, c :: cs, h => by
    have h1 := saysD_Z (a := ws) (b := cs) fun d hd => h d (List.mem_cons_of_mem _ hd)
    show (okd w c && saysD ws cs) = (okc w c && saysZ ws cs)
    rw [h1, okd_okc (h c List.mem_cons_self)]
theorem saysD_drop {a b : List Nat} {i x y : Nat} (h1 : a[i]? = some x) (h2 : b[i]? = some y) : saysD (a.drop i) (b.drop i) = (okd x y && saysD (a.drop (i + 1)) (b.drop (i + 1))) := by
  obtain ⟨l1, e1⟩ := List.getElem?_eq_some_iff.mp h1
  obtain ⟨l2, e2⟩ := List.getElem?_eq_some_iff.mp h2
  rw [List.drop_eq_getElem_cons l1, List.drop_eq_getElem_cons l2, e1, e2]; rfl
/-- the two ways to say that a row fits -/
theorem fits_eq {l r w : List Nat} {g : Nat} (hw : ∀ c ∈ w, isL c = true) (h1 : ¬ (w.take g).length + 1 < l.length) :
    fitsB l r w g = (lsays l ((46 :: w.take g).drop ((w.take g).length + 1 - l.length)) && lsays r ((w.drop g ++ [46]).take r.length)) := by
  have m1 : ∀ c ∈ (46 :: w.take g).drop ((w.take g).length + 1 - l.length), isL c = true ∨ c = 46 := fun c hc => by
    rcases List.mem_cons.mp (List.mem_of_mem_drop hc) with h | h
    · exact .inr h
    · exact .inl (hw c (List.mem_of_mem_take h))
  have m2 : ∀ c ∈ (w.drop g ++ [46]).take r.length, isL c = true ∨ c = 46 := fun c hc => by
    rcases List.mem_append.mp (List.mem_of_mem_take hc) with h | h
    · exact .inl (hw c (List.mem_of_mem_drop h))
    · exact .inr (List.mem_singleton.mp h)
  have e1 : decide (l.length = ((46 :: w.take g).drop ((w.take g).length + 1 - l.length)).length) = true := decide_eq_true (by rw [List.length_drop, List.length_cons]; omega)
  have e2 : decide (r.length = ((w.drop g ++ [46]).take r.length).length) = !decide ((w.drop g).length + 1 < r.length) := by
    rw [List.length_take, List.length_append, List.length_singleton]
    by_cases h : (w.drop g).length + 1 < r.length
    · rw [decide_eq_true h, decide_eq_false (by omega)]; rfl
    · rw [decide_eq_false h, decide_eq_true (by omega)]; rfl
  unfold lsays fitsB
  rw [saysD_Z m1, saysD_Z m2, e1, e2, decide_eq_false h1, Bool.false_or, Bool.true_and]
  generalize decide ((w.drop g).length + 1 < r.length) = x
  generalize saysZ l _ = y
  generalize saysZ r _ = z
  cases x <;> cases y <;> cases z <;> rfl
section
variable {P : Program} {w : World} {K : PySem.W.Frag} {mg : Str → Option Value} {base : Heap} {t1 t2 t3 t4 t5 : Tok}
theorem atS {z : Str} {i c : Nat} (h : (tl z)[i]? = some c) : atI z.cps.toList ((i : Nat) : Int) = some c := atI_nat h
/-! ### _law_says -/
def spLSays : Sp := fun vs H Q _ => ∃ (a b : Str), vs = [.str a, .str b] ∧ a.length ≤ 200 ∧ b.length ≤ 200 ∧ Q (.bl (lsays (tl a) (tl b))) H
theorem scLSays : FnScope ["_law_part", "_law_text", "_law_k"] ["_law_part", "_law_text"] (defScope sLSays) := ⟨rfl, rfl, rfl, by decide +kernel, rfl, by decide +kernel, by decide +kernel⟩
theorem ok_lsays {f : Addr} {fd : FuncData} (B : Blt mg) (F : Fun K "_law_says" "_law_says" sLSays f fd) : FnOk P w K mg base CX0 1 f fd ["_law_part", "_law_text"] spLSays := by
  refine F.ok scLSays (fun vs H Q E h => ?_) (fun cdv A0 outer s H vs Q E hr h => ?_)
  · obtain ⟨a, b, rfl, _⟩ := h; rfl
  · obtain ⟨a, b, rfl, ha, hb, q⟩ := h
    refine ⟨_, (pss_cons (ps_if (pt_cmpR op_ne (pe_callB call_len (by rfl) B.len PySem.boot_len (pa_cons (pv 0) pa_nil)) (pe_callB call_len (by rfl) B.len PySem.boot_len (pa_cons (pv 1) pa_nil)) (nomark _))
      (pss_one (ps_ret pe_bl))
      pss_nil)
      (pss_cons (ps_for (PassesOwn.never) rfl (pi_range1 (by rfl) B.range (pa_cons (pe_callB call_len (by rfl) B.len PySem.boot_len (pa_cons (pv 0) pa_nil)) pa_nil)) (pg_name (i := 2) scLSays.nd rfl (.inl rfl))
      (pss_one (ps_if (PW.pt (pw_and (pt_cmpR op_ne (pe_ix ix_str (pv 0) (pv 2) (fun _ _ => rfl)) (pe_ix ix_str (pv 1) (pv 2) (fun _ _ => rfl)) (nomark _)) (pw_and1 (PW.pt (pw_or (pt_cmpR op_ne (pe_ix ix_str (pv 0) (pv 2) (fun _ _ => rfl)) pe_str (nomark _)) (pw_or1 (pt_cmpR op_eq (pe_ix ix_str (pv 1) (pv 2) (fun _ _ => rfl)) pe_str (nomark _))))))))
       (pss_one (ps_ret pe_bl))
       pss_nil)))
      (pss_one (ps_ret pe_bl)))), ?_⟩
    have la : a.length ≤ sizeLine := Nat.le_trans ha (by decide)
    have lb : b.length ≤ sizeLine := Nat.le_trans hb (by decide)
    have ea := tl_len a; have eb := tl_len b
    refine ⟨.str a, rfl, .str a, a.length, rfl, ⟨la, rfl⟩, .str b, rfl, .str b, b.length, rfl, ⟨lb, rfl⟩, rfl, _, rfl, ?_⟩
    rw [eqI]
    refine ite2 (fun h => ?_) (fun h => ?_)
    · have hne : ¬ (a.length : Int) = (b.length : Int) := by simpa using h
      unfold lsays at q
      rw [decide_eq_false (by omega), Bool.false_and] at q
      exact q
    have hl : a.length = b.length := by
      have : (a.length : Int) = (b.length : Int) := by simpa using h
      omega
    unfold lsays at q
    rw [decide_eq_true (by omega), Bool.true_and] at q
    refine ⟨.str a, rfl, .str a, a.length, rfl, ⟨la, rfl⟩, (a.length : Int), rfl, by omega, by omega, ?_⟩
    rw [Int.toNat_natCast]
    refine for_range (lo := 0) (n := a.length) (fun i σ H' => ∃ y2, σ = [some (.str a), some (.str b), y2] ∧ H = H' ∧ saysD (tl a) (tl b) = saysD ((tl a).drop i) ((tl b).drop i)) ⟨none, rfl, rfl, rfl⟩ ?_ ?_
    · rintro i σ H' hi ⟨y2, rfl, rfl, hs⟩
      have e0 : (0 : Int) + (i : Int) = (i : Int) := by omega
      rw [e0]
      have hc : (tl a)[i]? = some ((tl a)[i]'(by omega)) := List.getElem?_eq_getElem _
      have hd : (tl b)[i]? = some ((tl b)[i]'(by omega)) := List.getElem?_eq_getElem _
      generalize (tl a)[i]'(by omega) = c at hc
      generalize (tl b)[i]'(by omega) = d at hd
      have hk := saysD_drop hc hd
      have go : okd c d = true → ∃ y2, ([some (V.str a), some (V.str b), some (V.int (i : Int))] : L2.St) = [some (.str a), some (.str b), y2] ∧ H = H ∧ saysD (tl a) (tl b) = saysD ((tl a).drop (i + 1)) ((tl b).drop (i + 1)) := fun ho => ⟨_, rfl, rfl, by rw [hs, hk, ho, Bool.true_and]⟩
      have no : okd c d = false → Q (.bl false) H := fun ho => by
        rw [hs, hk, ho, Bool.false_and] at q; exact q
      refine ⟨.str a, rfl, .int (i : Int), rfl, a, (i : Int), c, rfl, rfl, la, atS hc, .str b, rfl, .int (i : Int), rfl, b, (i : Int), d, rfl, rfl, lb, atS hd, rfl, _, rfl, ?_⟩
      rw [eqS]
      refine ite2 (fun h1 => ?_) (fun h1 => go (by unfold okd; simp at h1; simp [h1]))
      have f1 : ¬ c = d := by simpa using h1
      refine ⟨.str a, rfl, .int (i : Int), rfl, a, (i : Int), c, rfl, rfl, la, atS hc, rfl, _, rfl, ?_⟩
      rw [eQ, eqS]
      refine ite2 (fun h2 => iteT (no ?_)) (fun h2 => ⟨.str b, rfl, .int (i : Int), rfl, b, (i : Int), d, rfl, rfl, lb, atS hd, rfl, _, rfl, ?_⟩)
      · have f2 : ¬ c = 63 := by simpa using h2
        unfold okd; simp [f1, f2]
      · have f2 : c = 63 := by simpa using h2
        rw [eD, eqS]
        refine ite2 (fun h3 => no ?_) (fun h3 => go ?_)
        · have f3 : d = 46 := by simpa using h3
          unfold okd; rw [decide_eq_false f1, decide_eq_true f3]; simp
        · have f3 : ¬ d = 46 := by simpa using h3
          unfold okd; simp [f2, f3]
    · rintro σ H' ⟨y2, rfl, rfl, hs⟩
      rw [hs, ← ea, List.drop_length] at q
      have : saysD [] ((tl b).drop (tl a).length) = true := by cases (tl b).drop (tl a).length <;> rfl
      rw [this] at q
      exact q
/-! ### _law_fits -/
def spLFits : Sp := fun vs H Q _ => ∃ (t : Addr) (l r wd : Str) (b : Bool) (g : Nat), vs = [.ref t, .str wd, .int (g : Int)] ∧ H t = some (.tup [.str l, .str r, .bl b]) ∧ l.length ≤ 3 ∧ r.length ≤ 3 ∧ wd.length ≤ 100 ∧ (∀ c ∈ tl wd, isL c = true) ∧ Q (.bl (fitsB (tl l) (tl r) (tl wd) g)) H
theorem scLFits : FnScope ["_law_row_here", "_law_word_here", "_law_gap", "_law_before", "_law_behind", "_law_start"] ["_law_row_here", "_law_word_here", "_law_gap"] (defScope sLFits) := ⟨rfl, rfl, rfl, by decide +kernel, rfl, by decide +kernel, by decide +kernel⟩
theorem ok_lfits {f f_says : Addr} {fd fd_says : FuncData} (B : Blt mg) (F : Fun K "_law_fits" "_law_fits" sLFits f fd)
    (F_says : Fun K "_law_says" "_law_says" sLSays f_says fd_says) (b_says : Binds K fd_says ["_law_part", "_law_text"] []) (g_says : mg "_law_says" = some (.ref f_says)) :
    FnOk P w K mg base CX0 2 f fd ["_law_row_here", "_law_word_here", "_law_gap"] spLFits := by
  have G_says : FnOk P w K mg base CX0 1 f_says fd_says ["_law_part", "_law_text"] spLSays := ok_lsays B F_says
  refine F.ok scLFits (fun vs H Q E h => ?_) (fun cdv A0 outer s H vs Q E hr h => ?_)
  · obtain ⟨t, l, r, wd, b, g, rfl, _⟩ := h; rfl
  · obtain ⟨t, l, r, wd, b, g, rfl, ht, hl, hrl, hw, hL, q⟩ := h
    refine ⟨_, (pss_cons (ps_set (i := 3) scLFits.nd rfl (.inl rfl) (pe_op op_add_str pe_str (pe_slice sl_str (pv 1) po_none (po_some (pv 2)))))
      (pss_cons (ps_set (i := 4) scLFits.nd rfl (.inl rfl) (pe_op op_add_str (pe_slice sl_str (pv 1) (po_some (pv 2)) po_none) pe_str))
      (pss_cons (ps_set (i := 5) scLFits.nd rfl (.inl rfl) (pe_op op_sub (pe_callB call_len (by rfl) B.len PySem.boot_len (pa_cons (pv 3) pa_nil)) (pe_callB call_len (by rfl) B.len PySem.boot_len (pa_cons (pe_ix ix_tup (pv 0) pe_int (fun _ _ => rfl)) pa_nil))))
      (pss_cons (ps_if (PW.pt (pw_or (pt_cmpR op_lt (pv 5) pe_int (nomark _)) (pw_or1 (pt_not (pt_val (pe_call G_says hr (by rfl) g_says F_says.kp b_says .nil pass0 (pa_cons (pe_ix ix_tup (pv 0) pe_int (fun _ _ => rfl)) (pa_cons (pe_slice sl_str (pv 3) (po_some (pv 5)) po_none) pa_nil))))))))
      (pss_one (ps_ret pe_bl))
      pss_nil)
      (pss_one (ps_ret (pe_call G_says hr (by rfl) g_says F_says.kp b_says .nil pass0 (pa_cons (pe_ix ix_tup (pv 0) pe_int (fun _ _ => rfl)) (pa_cons (pe_slice sl_str (pv 4) po_none (po_some (pe_callB call_len (by rfl) B.len PySem.boot_len (pa_cons (pe_ix ix_tup (pv 0) pe_int (fun _ _ => rfl)) pa_nil)))) pa_nil))))))))), ?_⟩
    have hsl : wd.length ≤ sizeLine := Nat.le_trans hw (by decide)
    have edl : (Str.ofString ".").length = 1 := by decide +kernel
    have etd : tl (Str.ofString ".") = [46] := by decide +kernel
    have eA : tl (cutS wd none (some (g : Int))) = (tl wd).take g := cut_to wd g
    have eB : tl (cutS wd (some (g : Int)) none) = (tl wd).drop g := cut_from wd g
    generalize hA : cutS wd none (some (g : Int)) = A at eA
    generalize hB : cutS wd (some (g : Int)) none = Bh at eB
    have lA : A.length ≤ 100 := by rw [← hA]; exact Nat.le_trans (cutS_length _ _ _) hw
    have lB : Bh.length ≤ 100 := by rw [← hB]; exact Nat.le_trans (cutS_length _ _ _) hw
    have eA2 : A.length = ((tl wd).take g).length := by rw [← eA, tl_len]
    have line : ∀ n : Nat, n ≤ 300 → n ≤ sizeLine := fun n h => Nat.le_trans h (by decide)
    refine ⟨.str wd, rfl, .int (g : Int), rfl, _, rfl, wd, rfl, hsl, ?_⟩
    rw [hA]
    refine ⟨_, _, rfl, rfl, line _ (by rw [edl]; omega), ?_⟩
    refine ⟨.str wd, rfl, .int (g : Int), rfl, _, rfl, wd, rfl, hsl, ?_⟩
    rw [hB]
    refine ⟨_, _, rfl, rfl, line _ (by rw [edl]; omega), ?_⟩
    have lb1 : (Str.ofString "." ++ A).length = A.length + 1 := by rw [len_add, edl, Nat.add_comm]
    have lb2 : (Bh ++ Str.ofString ".").length = Bh.length + 1 := by rw [len_add, edl]
    have el := tl_len l; have er := tl_len r
    refine ⟨.str (Str.ofString "." ++ A), rfl, .str (Str.ofString "." ++ A), _, rfl, ⟨line _ (by omega), rfl⟩, .ref t, rfl, t, _, 0, .str l, rfl, rfl, SqT.of ht, atI_nat (j := 0) rfl, .str l, l.length, rfl, ⟨line _ (by omega), rfl⟩, _, _, rfl, rfl, ?_⟩
    refine ⟨_, rfl, _, 0, rfl, rfl, _, rfl, ite2 (fun h1 => iteT ?_) (fun h1 => ?_)⟩
    · have h1' : ((Str.ofString "." ++ A).length : Int) - (l.length : Int) < 0 := of_decide_eq_true h1
      have f1 : decide (((tl wd).take g).length + 1 < (tl l).length) = true := decide_eq_true (by omega)
      unfold fitsB at q
      rw [f1, Bool.true_or, Bool.not_true, Bool.false_and] at q
      exact q
    have h1' : ¬ ((Str.ofString "." ++ A).length : Int) - (l.length : Int) < 0 := fun h => h1 (decide_eq_true h)
    have f1 : ¬ ((tl wd).take g).length + 1 < (tl l).length := by omega
    rw [fits_eq hL f1] at q
    have e3 : ((((Str.ofString "." ++ A).length : Nat) : Int) - (l.length : Int)) = ((((tl wd).take g).length + 1 - (tl l).length : Nat) : Int) := by rw [lb1, eA2, el]; omega
    refine ⟨.ref t, rfl, t, _, 0, .str l, rfl, rfl, SqT.of ht, atI_nat (j := 0) rfl, .str (Str.ofString "." ++ A), rfl, _, rfl, _, congrArg V.int e3, _, rfl, line _ (by omega), l, _, rfl, by omega, Nat.le_trans (cutS_length _ _ _) (by omega), ?_⟩
    rw [cut_from, tl_add, etd, eA]
    rw [show ([46] ++ (tl wd).take g) = 46 :: (tl wd).take g from rfl]
    refine ⟨_, rfl, ?_⟩
    cases es : lsays (tl l) ((46 :: (tl wd).take g).drop (((tl wd).take g).length + 1 - (tl l).length)) with
    | false =>
      rw [es, Bool.false_and] at q
      exact iteT q
    | true =>
      rw [es, Bool.true_and] at q
      refine iteF ⟨.ref t, rfl, t, _, 1, .str r, rfl, rfl, SqT.of ht, atI_nat (j := 1) rfl, .str (Bh ++ Str.ofString "."), rfl, .ref t, rfl, t, _, 1, .str r, rfl, rfl, SqT.of ht, atI_nat (j := 1) rfl, .str r, r.length, rfl, ⟨line _ (by omega), rfl⟩, _, rfl, _, rfl, line _ (by omega), r, _, rfl, by omega, Nat.le_trans (cutS_length _ _ _) (by omega), ?_⟩
      rw [cut_to, tl_add, etd, eB, ← er]
      exact q
end
end K31

set_option maxRecDepth 100000
set_option maxHeartbeats 4000000
namespace K31
open PySem PySem.Spec PyProof.Rows L2 RJ PySem.Calls
/-! ### text * int, with what stands in it -/
theorem rep_size (z : Array Nat) : ∀ (k : Nat) (acc : Array Nat), ((List.replicate k z).foldl (fun x1 x2 => x1 ++ x2) acc).size = acc.size + k * z.size
  | 0, acc => by simp
  | k + 1, acc => by
    rw [List.replicate_succ, List.foldl_cons, rep_size z k (acc ++ z), Array.size_append, Nat.succ_mul]; omega
theorem rep_tl (z : Array Nat) : ∀ (k : Nat) (acc : Array Nat), ((List.replicate k z).foldl (fun x1 x2 => x1 ++ x2) acc).toList = acc.toList ++ (List.replicate k z.toList).flatten
  | 0, acc => by simp
  | k + 1, acc => by
    rw [List.replicate_succ, List.foldl_cons, rep_tl z k (acc ++ z), Array.toList_append, List.replicate_succ, List.flatten_cons, List.append_assoc]
def rMulT : R2 := fun x y H Q => ∃ (z : Str) (n : Nat), x = .str z ∧ y = .int (n : Int) ∧ 2 ≤ n ∧ n ≤ 1000 ∧ 1 ≤ z.length ∧ z.length ≤ 1000 ∧ ∀ z' : Str, tl z' = (List.replicate n (tl z)).flatten → z'.length = n * z.length → Q (.str z') H
theorem op_mulT {X : Cx} : OpR X (binaryOp .Mult) rMulT := by
  intro pins s σ H x y v u Q I rx ry h
  obtain ⟨z, n, rfl, rfl, h2, h3, h4, h5, q⟩ := h
  obtain ⟨t, rfl⟩ := rx
  obtain ⟨t', rfl⟩ := ry
  have hm : z.length * n ≤ 1000 * 1000 := Nat.mul_le_mul h5 h3
  have hone : ((n : Int) == 1 || z.length == 0) = false := by
    rw [Bool.or_eq_false_iff]; exact ⟨beq_eq_false_iff_ne.mpr (by omega), beq_eq_false_iff_ne.mpr (by omega)⟩
  refine PySem.P.mul_str ?_ (fun _ _ => ?_) (fun _ _ => ?_) ?_
  · rw [Bool.or_eq_false_iff]; exact ⟨decide_eq_false (by omega), decide_eq_false (by omega)⟩
  · intro hgt
    have h7 : (2 ^ 63 - 1 : Int) / (n : Int) ≥ 1000 := (Int.le_ediv_iff_mul_le (by omega)).mpr (by omega)
    omega
  · show decide (z.length * (n : Int).toNat > sizeLine) = false
    refine decide_eq_false ?_
    rw [Int.toNat_natCast, sizeLine_eq]; omega
  · rw [if_neg (by omega), if_neg (by rw [hone]; exact Bool.false_ne_true), Int.toNat_natCast]
    have hs : (List.foldl (· ++ ·) #[] (List.replicate n z.cps)).size = n * z.length := by
      have e := rep_size z.cps n #[]
      rw [e]; simp [Str.length]
    have ht : (List.foldl (· ++ ·) #[] (List.replicate n z.cps)).toList = (List.replicate n (tl z)).flatten := by
      have e := rep_tl z.cps n #[]
      rw [e]; simp [tl]
    refine ⟨?_, ⟨.str _, H, I.tok _, ⟨_, rfl⟩, q _ ht hs⟩⟩
    rw [sizeLine_eq]
    show (List.foldl (· ++ ·) #[] (List.replicate n z.cps)).size ≤ _
    rw [hs, Nat.mul_comm]; omega
theorem all_rep {l : List Nat} {n : Nat} {p : Nat → Prop} (h : ∀ c ∈ l, p c) : ∀ c ∈ (List.replicate n l).flatten, p c := fun c hc => by
  obtain ⟨m, hm, hc⟩ := List.mem_flatten.mp hc
  rw [(List.mem_replicate.mp hm).2] at hc
  exact h c hc
structure Word (z y : Str) : Prop where
  L : ∀ c ∈ tl y, c ∈ tl z
  lo : 1 ≤ y.length
  hi : y.length ≤ 40
section
variable {P : Program} {w : World} {K : PySem.W.Frag} {mg : Str → Option Value} {base : Heap} {t1 t2 t3 t4 t5 : Tok}
/-! ### _law_word -/
def lsW (n : Nat) : List Int := [3, 8, 40, 6] ++ List.replicate 40 (n : Int)
def spWord : Sp := fun vs H Q _ => ∃ (c : Int) (z : Str), vs = [.int c, .str z] ∧ Alpha z ∧ ∀ H' y, Same H H' → Word z y → Q (.str y) H'
abbrev nWo : List Str := ["_law_cell_here", "_law_letters_here", "_law_limits", "_law_k", "_law_row_here", "_law_size", "_law_drawn"]
theorem scWord : FnScope nWo ["_law_cell_here", "_law_letters_here"] (defScope sWord) := ⟨rfl, rfl, rfl, by decide +kernel, rfl, by decide +kernel, by decide +kernel⟩
theorem ok_word {f f_row : Addr} {fd fd_row : FuncData} (B : Blt mg) (F : Fun K "_law_word" "_law_word" sWord f fd)
    (F_row : Fun K "_law_row" "_law_row" sRow f_row fd_row) (b_row : Binds K fd_row ["_law_cell_here", "_law_limits"] []) (g_row : mg "_law_row" = some (.ref f_row)) :
    FnOk P w K mg base CX0 2 f fd ["_law_cell_here", "_law_letters_here"] spWord := by
  have G_row : FnOk P w K mg base CX0 1 f_row fd_row ["_law_cell_here", "_law_limits"] (spRow K) := ok_row B F_row
  refine F.ok scWord (fun vs H Q E h => ?_) (fun cdv A0 outer s H vs Q E hr h => ?_)
  · obtain ⟨c, z, rfl, _⟩ := h; rfl
  · obtain ⟨c, z, rfl, hz, q⟩ := h
    refine ⟨_, (pss_cons (ps_set (i := 2) scWord.nd rfl (.inl rfl) (pe_lst (pa_cons pe_int (pa_cons pe_int (pa_cons pe_int (pa_cons pe_int pa_nil))))))
      (pss_cons (ps_for (PassesOwn.never) rfl (pi_range1 (by rfl) B.range (pa_cons pe_int pa_nil)) (pg_name (i := 3) scWord.nd rfl (.inl rfl))
      (pss_one (ps_expr (pe_bm PySem.F.plainAttrs_list PySem.F.slot_list_append PySem.F.type_list_append mt_append (pv 2) (pa_cons (pe_callB call_len (by rfl) B.len PySem.boot_len (pa_cons (pv 1) pa_nil)) pa_nil)))))
      (pss_cons (ps_set (i := 4) scWord.nd rfl (.inr rfl) (pe_call G_row hr (by rfl) g_row F_row.kp b_row .nil pass0 (pa_cons (pv 0) (pa_cons (pv 2) pa_nil))))
      (pss_cons (ps_set (i := 5) scWord.nd rfl (.inl rfl) (pe_op op_add pe_int (pe_ix ix_list (pv 4) pe_int (fun _ _ => rfl))))
      (Evl.pss_cut (ps_if (pt_cmpR op_eq (pe_ix ix_list (pv 4) pe_int (fun _ _ => rfl)) pe_int (nomark _))
      (pss_one (ps_set (i := 5) scWord.nd rfl (.inl rfl) (pe_op op_add pe_int (pe_ix ix_list (pv 4) pe_int (fun _ _ => rfl)))))
      pss_nil)
      (pss_cons (ps_set (i := 6) scWord.nd rfl (.inl rfl) (pe_join pe_str (pe_lc (own := [("_law_k", 3)]) (g := gName 3) (tt := tYes) rfl scWord.nd (pi_range1 (by rfl) B.range (pa_cons pe_int pa_nil)) (blkOk_by (N := nWo) (sc := defScope sWord) (by decide +kernel)) (fun _ _ _ _ _ => (pg_name (i := 3) scWord.nd rfl (.inl rfl))) (fun _ _ _ _ _ => pts_nil) (fun _ _ _ _ _ => (pe_ix ix_str (pv 1) (pe_ix (show IxR _ (rIxL K) from ix_list) (pv 4) (pe_op op_add pe_int (pv 3)) (fun _ _ => rfl)) (fun _ _ => rfl))))))
      (Evl.pss_cut (ps_if (pt_cmpR op_eq (pe_ix ix_list (pv 4) pe_int (fun _ _ => rfl)) pe_int (nomark _))
      (pss_one (ps_set (i := 6) scWord.nd rfl (.inl rfl) (pe_op op_mulT (pe_slice sl_str (pv 6) po_none (po_some (pe_op op_add pe_int (pe_ix ix_list (pv 4) pe_int (fun _ _ => rfl))))) pe_int)))
      pss_nil)
      (pss_one (ps_ret (pe_slice sl_str (pv 6) po_none (po_some (pv 5)))))))))))), ?_⟩
    have z1 := hz.lo; have z3 := hz.hi
    have line : ∀ n : Nat, n ≤ 300 → n ≤ sizeLine := fun n h => Nat.le_trans h (by decide)
    refine ⟨(by show 4 ≤ sizeLine; decide), fun l nl => ?_⟩
    have s1 : Same H (upd H l (.lst [.int 3, .int 8, .int 40, .int 6])) := same_new nl
    have e1 : upd H l (.lst [.int 3, .int 8, .int 40, .int 6]) l = some (.lst (([3, 8, 40, 6] ++ List.replicate 0 (z.length : Int)).map V.int)) := upd_same
    generalize upd H l (.lst [.int 3, .int 8, .int 40, .int 6]) = H1 at s1 e1 ⊢
    refine ⟨40, rfl, by decide, by decide, ?_⟩
    refine for_range (lo := 0) (n := 40) (fun i σ H' => ∃ y3, σ = [some (.int c), some (.str z), some (.ref l), y3, none, none, none] ∧ Same H H' ∧ H' l = some (.lst (([3, 8, 40, 6] ++ List.replicate i (z.length : Int)).map V.int))) ⟨none, rfl, s1, e1⟩ ?_ ?_
    · rintro i σ H' hi ⟨y3, rfl, sm, hl⟩
      refine ⟨.ref l, rfl, .inl ⟨rfl, _, SqL.of hl⟩, .str z, rfl, .str z, z.length, rfl, ⟨line _ (by omega), rfl⟩, l, _, _, rfl, rfl, hl, small1000 (by simp; omega), ?_⟩
      refine ⟨_, rfl, same_at sm nl, ?_⟩
      rw [upd_same, map_snoc, List.append_assoc, ← List.replicate_succ']
    rintro σ H' ⟨y3, rfl, sm, hl⟩
    refine ⟨.int c, rfl, .ref l, rfl, c, l, lsW z.length, rfl, SqL.of hl, by simp [lsW], ?_, fun H2 R rs s2 nR eR hrow => ?_⟩
    · intro x hx
      simp only [lsW, List.mem_append, List.mem_cons, List.not_mem_nil, or_false, List.mem_replicate] at hx
      rcases hx with (rfl | rfl | rfl | rfl) | ⟨_, rfl⟩
      · decide
      · decide
      · decide
      · decide
      · omega
    have sA : Same H H2 := sm.trans s2
    obtain ⟨g0, a0, g00, g01⟩ := hrow.2 0 3 rfl
    obtain ⟨g1, a1, g10, g11⟩ := hrow.2 1 8 rfl
    obtain ⟨g2, a2, g20, g21⟩ := hrow.2 2 40 rfl
    obtain ⟨g3, a3, g30, g31⟩ := hrow.2 3 6 rfl
    have rowz : ∀ k : Nat, k < 40 → ∃ g, rs[4 + k]? = some g ∧ 0 ≤ g ∧ g < (z.length : Int) := fun k hk => hrow.2 (4 + k) (z.length : Int) (by
      unfold lsW
      rw [List.getElem?_append_right (by simp), show 4 + k - [3, 8, 40, (6 : Int)].length = k by simp, List.getElem?_replicate, if_pos hk])
    clear hl e1
    refine ⟨.ref R, rfl, R, _, 2, .int g2, rfl, rfl, SqL.of eR, atI_nat (j := 2) (at1 a2), 1, g2, rfl, rfl, ?_⟩
    refine ⟨fun σ H' => ∃ (y3 : Option V) (n : Nat), σ = [some (.int c), some (.str z), some (.ref l), y3, some (.ref R), some (.int (n : Int)), none] ∧ H2 = H' ∧ 1 ≤ n ∧ n ≤ 40, ?_, ?_⟩
    · have k1 : ∃ n : Nat, (1 + g2 : Int) = (n : Int) ∧ 1 ≤ n ∧ n ≤ 40 := ⟨(1 + g2).toNat, by omega, by omega, by omega⟩
      obtain ⟨n, en, n1, n40⟩ := k1
      have k2 : ∃ n : Nat, (1 + g1 : Int) = (n : Int) ∧ 1 ≤ n ∧ n ≤ 40 := ⟨(1 + g1).toNat, by omega, by omega, by omega⟩
      obtain ⟨m, em, m1, m40⟩ := k2
      dsimp only
      rw [en]
      refine ⟨.ref R, rfl, R, _, 0, .int g0, rfl, rfl, SqL.of eR, atI_nat (j := 0) (at1 a0), rfl, _, rfl, ite2 (fun _ => ?_) (fun _ => ⟨_, n, rfl, rfl, n1, n40⟩)⟩
      refine ⟨.ref R, rfl, R, _, 1, .int g1, rfl, rfl, SqL.of eR, atI_nat (j := 1) (at1 a1), 1, g1, rfl, rfl, y3, m, ?_, rfl, m1, m40⟩
      rw [← em]; rfl
    rintro σ _ ⟨y3', n, rfl, rfl, hn1, hn40⟩
    refine ⟨⟨_, rfl⟩, 40, rfl, by decide, by decide, fun D hD => ?_⟩
    refine lc_range (lo := 0) (n := 40) (fun i H' => ∃ cs : List Nat, H' D = some (.lst ((cs.map fun c => (⟨#[c]⟩ : Str)).map V.str)) ∧ cs.length = i ∧ (∀ c ∈ cs, c ∈ tl z) ∧ Same H2 H')
      ⟨[], upd_same, rfl, fun c h => absurd h List.not_mem_nil, same_new hD⟩ ?_ ?_
    · rintro i H' hi ⟨cs, hD', hl, hL, sm⟩
      obtain ⟨g, ag, gg0, gg1⟩ := rowz i hi
      obtain ⟨cch, hc, hcm⟩ := pick (z := z) gg0 gg1
      have e0 : (4 : Int) + (0 + (i : Int)) = ((4 + i : Nat) : Int) := by omega
      refine ⟨rfl, .str z, rfl, .ref R, rfl, .int (0 + (i : Int)), rfl, 4, _, rfl, rfl, R, _, _, .int g, rfl, rfl, SqL.of (sm _ _ eR), by rw [e0]; exact atI_nat (at1 ag), z, g, cch, rfl, rfl, line _ (by omega), hc, _, hD', ?_, cs ++ [cch], ?_, ?_, ?_, same_at sm hD⟩
      · rw [List.length_map, List.length_map]; exact small1000 (by omega)
      · rw [upd_same, List.map_append, List.map_append]; rfl
      · rw [List.length_append, hl]; rfl
      · intro x hx
        rcases List.mem_append.mp hx with h | h
        · exact hL x h
        · rw [List.mem_singleton.mp h]; exact hcm
    rintro H3 ⟨cs, hD', hl, hL, sm3⟩
    refine ⟨_, D, _, rfl, rfl, .inl (SqL.of hD'), ?_, ?_⟩
    · rw [sum_ones, show (Str.ofString "").length = 0 by decide +kernel, Nat.mul_zero]; omega
    have eJ := join_ones cs
    generalize hJ : Txt.join (Str.ofString "") (cs.map fun c => (⟨#[c]⟩ : Str)) = J at eJ
    have lJ : J.length = 40 := by rw [← tl_len, eJ, hl]
    have eR3 := sm3 _ _ eR
    clear hD hD' hJ
    refine ⟨fun σ H' => ∃ (y3 : Option V) (y : Str), σ = [some (.int c), some (.str z), some (.ref l), y3, some (.ref R), some (.int (n : Int)), some (.str y)] ∧ H3 = H' ∧ (∀ c ∈ tl y, c ∈ tl z) ∧ 40 ≤ y.length ∧ y.length ≤ 300, ?_, ?_⟩
    · have keep : (∀ c ∈ tl J, c ∈ tl z) ∧ 40 ≤ J.length ∧ J.length ≤ 300 := ⟨by rw [eJ]; exact hL, by omega, by omega⟩
      refine ⟨.ref R, rfl, R, _, 0, .int g0, rfl, rfl, SqL.of eR3, atI_nat (j := 0) (at1 a0), rfl, _, rfl, ite2 (fun _ => ?_) (fun _ => ⟨_, J, rfl, rfl, keep⟩)⟩
      obtain ⟨m, em, m1, m6⟩ : ∃ m : Nat, (1 + g3 : Int) = (m : Int) ∧ 1 ≤ m ∧ m ≤ 6 := ⟨(1 + g3).toNat, by omega, by omega, by omega⟩
      refine ⟨.str J, rfl, .ref R, rfl, R, _, 3, .int g3, rfl, rfl, SqL.of eR3, atI_nat (j := 3) (at1 a3), 1, g3, rfl, rfl, _, congrArg V.int em, J, rfl, line _ (by omega), _, 40, rfl, rfl, by decide, by decide, ?_, ?_, fun y' hy hyl => ?_⟩
      · rw [← tl_len, cut_to, List.length_take, tl_len, lJ]; omega
      · exact Nat.le_trans (cutS_length _ _ _) (by omega)
      have hcl : (cutS J none (some (m : Int))).length = m := by rw [← tl_len, cut_to, List.length_take, tl_len, lJ]; omega
      refine ⟨_, y', rfl, rfl, ?_, by rw [hyl, hcl]; omega, by rw [hyl, hcl]; omega⟩
      rw [hy]
      exact all_rep fun c hc => by rw [cut_to] at hc; exact keep.1 c (List.mem_of_mem_take hc)
    rintro σ _ ⟨y3'', y, rfl, rfl, hyL, hy40, hy300⟩
    refine ⟨.str y, rfl, .int (n : Int), rfl, _, rfl, y, rfl, line _ hy300, q _ _ (sA.trans sm3) ⟨?_, ?_, ?_⟩⟩
    · intro c hc
      rw [cut_to] at hc
      exact hyL c (List.mem_of_mem_take hc)
    · rw [← tl_len, cut_to, List.length_take, tl_len]; omega
    · rw [← tl_len, cut_to, List.length_take]; omega
end
end K31

set_option maxRecDepth 100000
set_option maxHeartbeats 4000000
namespace K31
open PySem PySem.Spec PyProof.Rows L2 RJ
/-! ### what is told -/
def isJ : List Rw → List Nat → Nat → Bool
  | [], _, _ => false
  | x :: xs, w, g => if fitsB (tl x.1) (tl x.2.1) w g = true then !x.2.2 else isJ xs w g
theorem isJ_none {w : List Nat} {g : Nat} : ∀ {xs : List Rw} {k : Nat}, first (fun x : Rw => fitsB (tl x.1) (tl x.2.1) w g) xs k = none → isJ xs w g = false
  | [], k, _ => rfl
  | x :: xs, k, h => by
    unfold first at h
    by_cases hf : fitsB (tl x.1) (tl x.2.1) w g = true
    · rw [if_pos hf] at h; cases h
    · rw [if_neg hf] at h
      unfold isJ
      rw [if_neg hf]
      exact isJ_none h
theorem isJ_some {w : List Nat} {g : Nat} : ∀ {xs : List Rw} {k n : Nat}, first (fun x : Rw => fitsB (tl x.1) (tl x.2.1) w g) xs k = some n → ∃ i x, n = k + i ∧ xs[i]? = some x ∧ isJ xs w g = !x.2.2
  | [], k, n, h => by cases h
  | x :: xs, k, n, h => by
    unfold first at h
    by_cases hf : fitsB (tl x.1) (tl x.2.1) w g = true
    · rw [if_pos hf] at h; cases h
      exact ⟨0, x, rfl, rfl, by unfold isJ; rw [if_pos hf]⟩
    · rw [if_neg hf] at h
      obtain ⟨i, y, e, hy, hj⟩ := isJ_some h
      exact ⟨i + 1, y, by omega, by simpa using hy, by unfold isJ; rw [if_neg hf]; exact hj⟩
def nV (g : Nat) : V := .int (g : Int)
/-- the first k gaps -/
def gapsTo (xs : List Rw) (w : List Nat) : Nat → List Nat
  | 0 => []
  | k + 1 => gapsTo xs w k ++ (if isJ xs w (1 + k) = true then [1 + k] else [])
def gapsOf (xs : List Rw) (w : List Nat) : List Nat := gapsTo xs w (w.length - 1)
theorem gapsTo_len (xs : List Rw) (w : List Nat) : ∀ k, (gapsTo xs w k).length ≤ k
  | 0 => Nat.le_refl _
  | k + 1 => by
    have := gapsTo_len xs w k
    unfold gapsTo
    rw [List.length_append]
    split <;> simp <;> omega
theorem gapsTo_le (xs : List Rw) (w : List Nat) : ∀ k, ∀ g ∈ gapsTo xs w k, g ≤ k
  | 0, g, h => by cases h
  | k + 1, g, h => by
    unfold gapsTo at h
    rcases List.mem_append.mp h with h | h
    · have := gapsTo_le xs w k g h; omega
    · split at h
      · rw [List.mem_singleton.mp h]; omega
      · cases h
section
variable {P : Program} {w : World} {K : PySem.W.Frag} {mg : Str → Option Value} {base : Heap} {t1 t2 t3 t4 t5 : Tok}
/-! ### Joints.__len__, Joints.__iter__ -/
def spLen (C : Addr) : Sp := fun vs H Q _ => ∃ (p l1 l2 : Addr) (zs : List Str) (xs : List Rw), vs = [.ref p] ∧ JAt C H p l1 l2 zs xs ∧ zs.length ≤ 1000 ∧ Q (.int ((zs.length : Nat) : Int)) H
theorem scLen : FnScope ["self"] ["self"] (defScope sLen) := ⟨rfl, rfl, rfl, by decide +kernel, rfl, by decide +kernel, by decide +kernel⟩
theorem ok_len {C f : Addr} {fd : FuncData} (B : Blt mg) (T : Txt K mg C) (F : Fun K "__len__" "Joints.__len__" sLen f fd) : FnOk P w K mg base CX0 1 f fd ["self"] (spLen C) := by
  refine F.ok scLen (fun vs H Q E h => ?_) (fun cdv A0 outer s H vs Q E hr h => ?_)
  · obtain ⟨p, l1, l2, zs, xs, rfl, _⟩ := h; rfl
  · obtain ⟨p, l1, l2, zs, xs, rfl, ⟨dx, fs, us, hp, ff, hl1, hl2, hrow⟩, hz, q⟩ := h
    refine ⟨_, (pss_one (ps_ret (pe_callB call_len (by rfl) B.len PySem.boot_len (pa_cons (pe_fld (pv 0) rfl) pa_nil)))), ?_⟩
    refine ⟨.ref p, rfl, p, C, dx, fs, _, rfl, hp, T.cl, T.nL, ff.li, .ref l1, (zs.map V.str).length, rfl, .inl ⟨_, SqL.of hl1, rfl⟩, ?_⟩
    rw [List.length_map]; exact q
theorem scIter : FnScope ["self"] ["self"] (defScope sIter) := ⟨rfl, rfl, rfl, by decide +kernel, rfl, by decide +kernel, by decide +kernel⟩
theorem ok_iter {C f : Addr} {fd : FuncData} (B : Blt mg) (T : Txt K mg C) (F : Fun K "__iter__" "Joints.__iter__" sIter f fd) : RO.FnN P w K mg base CX0 1 f fd ["self"] (RO.spIt C "_lines") := by
  refine RO.fun_okN F scIter (fun n vs H Q E h => ?_) (fun cdv A0 outer s H vs Q E hr h => ?_)
  · obtain ⟨p, dx, l, fs, rfl, _⟩ := h; rfl
  · obtain ⟨p, dx, l, fs, rfl, hp, hf, ⟨zs, hl⟩, q⟩ := h
    refine ⟨_, (pss_one (ps_ret (pe_callB ItX.call_iterN (by rfl) B.iter (by decide +kernel) (pa_cons (pe_fld (pv 0) rfl) pa_nil)))), ?_⟩
    exact ⟨.ref p, rfl, p, C, dx, fs, _, rfl, hp, T.cl, T.nL, hf, l, zs, rfl, SqL.of hl, q⟩
/-! ### Joints.is_joint -/
def spIsJ (C : Addr) : Sp := fun vs H Q _ => ∃ (p l1 l2 : Addr) (wd : Str) (g : Nat) (zs : List Str) (xs : List Rw), vs = [.ref p, .str wd, .int (g : Int)] ∧ JAt C H p l1 l2 zs xs ∧ (∀ x ∈ xs, Good x) ∧ wd.length ≤ 100 ∧ g ≤ wd.length ∧ ∀ H', Same H H' → Q (.bl (isJ xs (tl wd) g)) H'
theorem scIsJ : FnScope ["self", "word", "gap", "index"] ["self", "word", "gap"] (defScope sIsJ) := ⟨rfl, rfl, rfl, by decide +kernel, rfl, by decide +kernel, by decide +kernel⟩
theorem ok_isj {C f f_decider f_is_letter f_says f_fits : Addr} {fd fd_decider fd_is_letter fd_says fd_fits : FuncData} (B : Blt mg) (Z : Cst mg t1 t2 t3 t4 t5) (T : Txt K mg C) (F : Fun K "is_joint" "Joints.is_joint" sIsJ f fd)
    (F_decider : Fun K "decider" "Joints.decider" sDec f_decider fd_decider) (b_decider : Binds K fd_decider ["self", "word", "gap"] []) (m_decider : Meth K C "decider" f_decider)
    (F_is_letter : Fun K "is_letter" "is_letter" sLetter f_is_letter fd_is_letter) (b_is_letter : Binds K fd_is_letter ["char"] []) (g_is_letter : mg "is_letter" = some (.ref f_is_letter))
    (F_says : Fun K "_says" "_says" sSays f_says fd_says) (b_says : Binds K fd_says ["part", "text"] []) (g_says : mg "_says" = some (.ref f_says))
    (F_fits : Fun K "_fits" "_fits" sFits f_fits fd_fits) (b_fits : Binds K fd_fits ["row", "word", "gap"] []) (g_fits : mg "_fits" = some (.ref f_fits)) :
    FnOk P w K mg base CX0 5 f fd ["self", "word", "gap"] (spIsJ C) := by
  have G_decider : FnOk P w K mg base CX0 4 f_decider fd_decider ["self", "word", "gap"] (spDec C) := ok_dec B Z T F_decider F_is_letter b_is_letter g_is_letter F_says b_says g_says F_fits b_fits g_fits
  refine F.ok scIsJ (fun vs H Q E h => ?_) (fun cdv A0 outer s H vs Q E hr h => ?_)
  · obtain ⟨p, l1, l2, wd, g, zs, xs, rfl, _⟩ := h; rfl
  · obtain ⟨p, l1, l2, wd, g, zs, xs, rfl, hJ, hgd, hw, hg, q⟩ := h
    obtain ⟨dx, fs, us, hp, ff, hl1, hl2, hrow⟩ := id hJ
    refine ⟨_, (pss_cons (ps_set (i := 3) scIsJ.nd rfl (.inl rfl) (pe_meth (pv 0) T.cl m_decider G_decider hr b_decider .nil pass0 (pa_cons (pv 1) (pa_cons (pv 2) pa_nil))))
      (pss_one (ps_ret (pe_and (pe_cmpR op_notN (pv 3) pe_non (nomark _)) (pe_one (pe_not (pe_ix ix_tup (pe_ix ix_list (pe_fld (pv 0) rfl) (pv 3) (fun _ _ => rfl)) pe_int (fun _ _ => rfl)))))))), ?_⟩
    refine ⟨.ref p, rfl, p, dx, fs, rfl, hp, ff.de, .str wd, rfl, .int (g : Int), rfl, p, l1, l2, wd, g, zs, xs, rfl, hJ, hgd, hw, hg, fun H1 s1 => ?_⟩
    have hq := q H1 s1
    cases hd : dec xs (tl wd) g with
    | none =>
      rw [isJ_none hd] at hq
      exact ⟨.non, rfl, rfl, _, rfl, iteF hq⟩
    | some n =>
      obtain ⟨i, x, e, hx, hj⟩ := isJ_some hd
      obtain rfl : n = i := by omega
      rw [hj] at hq
      have hun : n < us.length := by rw [hrow.1]; exact (List.getElem?_eq_some_iff.mp hx).1
      have hv : us[n]? = some (us[n]'hun) := List.getElem?_eq_getElem hun
      obtain ⟨x', hx', t, ev, ht⟩ := hrow.get hv
      rw [hx] at hx'; cases hx'
      rw [ev] at hv
      refine ⟨.int (n : Int), rfl, rfl, _, rfl, iteT ?_⟩
      refine ⟨.ref p, rfl, p, C, dx, fs, _, rfl, s1 _ _ hp, T.cl, T.nR, ff.ro, .int (n : Int), rfl, l2, us, (n : Int), .ref t, rfl, rfl, SqL.of (s1 _ _ hl2), atI_nat hv, t, _, 2, .bl x.2.2, rfl, rfl, SqT.of (s1 _ _ ht), atI_nat (j := 2) rfl, _, rfl, hq⟩
end
end K31

set_option maxRecDepth 100000
set_option maxHeartbeats 4000000
namespace K31
open PySem PySem.Spec PyProof.Rows L2 RJ
section
variable {P : Program} {w : World} {K : PySem.W.Frag} {mg : Str → Option Value} {base : Heap} {t1 t2 t3 t4 t5 : Tok}
/-! ### Joints.gaps -/
def spGaps (C : Addr) : Sp := fun vs H Q _ => ∃ (p l1 l2 : Addr) (wd : Str) (zs : List Str) (xs : List Rw), vs = [.ref p, .str wd] ∧ JAt C H p l1 l2 zs xs ∧ (∀ x ∈ xs, Good x) ∧ 1 ≤ wd.length ∧ wd.length ≤ 100 ∧
  ∀ H' o, Same H H' → H o = none → H' o = some (.lst ((gapsOf xs (tl wd)).map nV)) → Q (.ref o) H'
abbrev nGa : List Str := ["self", "word", "gap"]
theorem scGaps : FnScope nGa ["self", "word"] (defScope sGaps) := ⟨rfl, rfl, rfl, by decide +kernel, rfl, by decide +kernel, by decide +kernel⟩
theorem ok_gaps {C f f_isj f_decider f_is_letter f_says f_fits : Addr} {fd fd_isj fd_decider fd_is_letter fd_says fd_fits : FuncData} (B : Blt mg) (Z : Cst mg t1 t2 t3 t4 t5) (T : Txt K mg C) (F : Fun K "gaps" "Joints.gaps" sGaps f fd)
    (F_is_joint : Fun K "is_joint" "Joints.is_joint" sIsJ f_isj fd_isj) (b_is_joint : Binds K fd_isj ["self", "word", "gap"] []) (m_is_joint : Meth K C "is_joint" f_isj)
    (F_decider : Fun K "decider" "Joints.decider" sDec f_decider fd_decider) (b_decider : Binds K fd_decider ["self", "word", "gap"] []) (m_decider : Meth K C "decider" f_decider)
    (F_is_letter : Fun K "is_letter" "is_letter" sLetter f_is_letter fd_is_letter) (b_is_letter : Binds K fd_is_letter ["char"] []) (g_is_letter : mg "is_letter" = some (.ref f_is_letter))
    (F_says : Fun K "_says" "_says" sSays f_says fd_says) (b_says : Binds K fd_says ["part", "text"] []) (g_says : mg "_says" = some (.ref f_says))
    (F_fits : Fun K "_fits" "_fits" sFits f_fits fd_fits) (b_fits : Binds K fd_fits ["row", "word", "gap"] []) (g_fits : mg "_fits" = some (.ref f_fits)) :
    FnOk P w K mg base CX0 6 f fd ["self", "word"] (spGaps C) := by
  have G_is_joint : FnOk P w K mg base CX0 5 f_isj fd_isj ["self", "word", "gap"] (spIsJ C) := ok_isj B Z T F_is_joint F_decider b_decider m_decider F_is_letter b_is_letter g_is_letter F_says b_says g_says F_fits b_fits g_fits
  refine F.ok scGaps (fun vs H Q E h => ?_) (fun cdv A0 outer s H vs Q E hr h => ?_)
  · obtain ⟨p, l1, l2, wd, zs, xs, rfl, _⟩ := h; rfl
  · obtain ⟨p, l1, l2, wd, zs, xs, rfl, hJ, hgd, hw1, hw, q⟩ := h
    refine ⟨_, (pss_one (ps_ret (pe_lc (own := [("gap", 2)]) (g := gName 2) rfl scGaps.nd (pi_range2 (by rfl) B.range (pa_cons pe_int (pa_cons (pe_callB call_len (by rfl) B.len PySem.boot_len (pa_cons (pv 1) pa_nil)) pa_nil))) (blkOk_by (N := nGa) (sc := defScope sGaps) (by decide +kernel)) (fun _ _ _ _ _ => (pg_name (i := 2) scGaps.nd rfl (.inl rfl))) (fun _ _ _ _ _ => pts_one (pt_val (pe_meth (pv 0) T.cl m_is_joint G_is_joint hr b_is_joint .nil pass0 (pa_cons (pv 1) (pa_cons (pv 2) pa_nil))))) (fun _ _ _ _ _ => (pv 2))))), ?_⟩
    refine ⟨.str wd, rfl, .str wd, wd.length, rfl, ⟨Nat.le_trans hw (by decide), rfl⟩, 1, (wd.length : Int), rfl, ⟨by decide, by decide, by omega, by omega⟩, fun D hD => ?_⟩
    have en : ((wd.length : Int) - 1).toNat = wd.length - 1 := by omega
    rw [en]
    refine lc_range (lo := 1) (n := wd.length - 1) (fun i H' => H' D = some (.lst ((gapsTo xs (tl wd) i).map nV)) ∧ Same H H') ⟨upd_same, same_new hD⟩ ?_ ?_
    · rintro i H' hi ⟨hD', sm⟩
      have eg : (1 : Int) + (i : Int) = ((1 + i : Nat) : Int) := by omega
      rw [eg]
      obtain ⟨dx, fs, us, hp, ff, hl1, hl2, hrow⟩ := hJ.same sm
      refine ⟨rfl, .ref p, rfl, p, dx, fs, rfl, hp, ff.ij, .str wd, rfl, .int ((1 + i : Nat) : Int), rfl, p, l1, l2, wd, 1 + i, zs, xs, rfl, hJ.same sm, hgd, hw, by omega, fun H2 s2 => ⟨_, rfl, ?_⟩⟩
      refine ite2 (fun h => ?_) (fun h => ?_)
      · refine ⟨_, rfl, _, s2 _ _ hD', ?_, ?_, same_at (sm.trans s2) hD⟩
        · have := gapsTo_len xs (tl wd) i
          rw [List.length_map]; exact small1000 (by omega)
        · rw [upd_same]
          show _ = some (HO.lst ((gapsTo xs (tl wd) i ++ (if isJ xs (tl wd) (1 + i) = true then [1 + i] else [])).map nV))
          rw [if_pos h, List.map_append]; rfl
      · refine ⟨?_, sm.trans s2⟩
        show _ = some (HO.lst ((gapsTo xs (tl wd) i ++ (if isJ xs (tl wd) (1 + i) = true then [1 + i] else [])).map nV))
        rw [if_neg (by simpa using h), List.append_nil]; exact s2 _ _ hD'
    · rintro H' ⟨hD', sm⟩
      refine q H' D sm hD ?_
      unfold gapsOf
      rw [tl_len]; exact hD'
/-! ### _law_decider -/
def spLDec : Sp := fun vs H Q _ => ∃ (a : Addr) (us : List V) (wd : Str) (g : Nat) (xs : List Rw), vs = [.ref a, .str wd, .int (g : Int)] ∧ H a = some (.lst us) ∧ RowsL H us xs ∧ xs.length ≤ 100 ∧ (∀ x ∈ xs, Good x) ∧ wd.length ≤ 100 ∧ (∀ c ∈ tl wd, isL c = true) ∧ Q (ov (dec xs (tl wd) g)) H
theorem scLDec : FnScope ["_law_rows", "_law_word_here", "_law_gap", "_law_k"] ["_law_rows", "_law_word_here", "_law_gap"] (defScope sLDec) := ⟨rfl, rfl, rfl, by decide +kernel, rfl, by decide +kernel, by decide +kernel⟩
theorem ok_ldec {f f_says f_fits : Addr} {fd fd_says fd_fits : FuncData} (B : Blt mg) (F : Fun K "_law_decider" "_law_decider" sLDec f fd)
    (F_says : Fun K "_law_says" "_law_says" sLSays f_says fd_says) (b_says : Binds K fd_says ["_law_part", "_law_text"] []) (g_says : mg "_law_says" = some (.ref f_says))
    (F_fits : Fun K "_law_fits" "_law_fits" sLFits f_fits fd_fits) (b_fits : Binds K fd_fits ["_law_row_here", "_law_word_here", "_law_gap"] []) (g_fits : mg "_law_fits" = some (.ref f_fits)) :
    FnOk P w K mg base CX0 3 f fd ["_law_rows", "_law_word_here", "_law_gap"] spLDec := by
  have G_fits : FnOk P w K mg base CX0 2 f_fits fd_fits ["_law_row_here", "_law_word_here", "_law_gap"] spLFits := ok_lfits B F_fits F_says b_says g_says
  refine F.ok scLDec (fun vs H Q E h => ?_) (fun cdv A0 outer s H vs Q E hr h => ?_)
  · obtain ⟨a, us, wd, g, xs, rfl, _⟩ := h; rfl
  · obtain ⟨a, us, wd, g, xs, rfl, ha, hrow, hx100, hgd, hw, hL, q⟩ := h
    refine ⟨_, (pss_cons (ps_for (PassesOwn.never) rfl (pi_range1 (by rfl) B.range (pa_cons (pe_callB call_len (by rfl) B.len PySem.boot_len (pa_cons (pv 0) pa_nil)) pa_nil)) (pg_name (i := 3) scLDec.nd rfl (.inl rfl))
      (pss_one (ps_if (pt_val (pe_call G_fits hr (by rfl) g_fits F_fits.kp b_fits .nil pass0 (pa_cons (pe_ix ix_list (pv 0) (pv 3) (fun _ _ => rfl)) (pa_cons (pv 1) (pa_cons (pv 2) pa_nil)))))
       (pss_one (ps_ret (pv 3)))
       pss_nil)))
      (pss_one (ps_ret pe_non))), ?_⟩
    have hul := hrow.1
    refine ⟨.ref a, rfl, .ref a, us.length, rfl, .inl ⟨_, SqL.of ha, rfl⟩, (us.length : Int), rfl, by omega, by omega, ?_⟩
    rw [Int.toNat_natCast]
    refine for_range (lo := 0) (n := us.length) (fun i σ H' => ∃ y3, σ = [some (.ref a), some (.str wd), some (.int (g : Int)), y3] ∧ H = H' ∧ ∀ (j : Nat) x, j < i → xs[j]? = some x → fitsB (tl x.1) (tl x.2.1) (tl wd) g = false) ⟨none, rfl, rfl, fun j x h => absurd h (Nat.not_lt_zero j)⟩ ?_ ?_
    · rintro i σ H' hi ⟨y3, rfl, rfl, hno⟩
      have e0 : (0 : Int) + (i : Int) = (i : Int) := by omega
      rw [e0]
      have hv : us[i]? = some (us[i]'hi) := List.getElem?_eq_getElem hi
      obtain ⟨x, hx, t, ev, ht⟩ := hrow.get hv
      rw [ev] at hv
      have gx := hgd x (List.mem_of_getElem? hx)
      refine ⟨.ref a, rfl, .int (i : Int), rfl, a, us, (i : Int), .ref t, rfl, rfl, SqL.of ha, atI_nat hv, .str wd, rfl, .int (g : Int), rfl, t, x.1, x.2.1, wd, x.2.2, g, rfl, ht, gx.l, gx.r, hw, hL, _, rfl, ite2 (fun h => ?_) (fun h => ?_)⟩
      · have e : dec xs (tl wd) g = some i := by
          have := first_some (k := 0) (f := fun x : Rw => fitsB (tl x.1) (tl x.2.1) (tl wd) g) (fun j y hj hy => hno j y hj hy) hx h
          rw [Nat.zero_add] at this; exact this
        rw [e] at q
        exact ⟨.int (i : Nat), rfl, q⟩
      · refine ⟨_, rfl, rfl, fun j y hj hy => ?_⟩
        by_cases hji : j < i
        · exact hno j y hji hy
        · obtain rfl : j = i := by omega
          rw [hx] at hy; cases hy
          simpa using h
    · rintro σ H' ⟨y3, rfl, rfl, hno⟩
      have e : dec xs (tl wd) g = none := first_none fun j y hy => hno j y (by rw [hul]; exact (List.getElem?_eq_some_iff.mp hy).1) hy
      rw [e] at q
      exact q
/-! ### _law_list -/
def spList (K : PySem.W.Frag) : Sp := fun vs H Q _ => ∃ (a : Addr) (ns : List Int) (k : Int) (z : Str), vs = [.ref a, .int k, .str z] ∧ SqL K H a (ns.map V.int) ∧ ns.length ≤ 63 ∧ 0 ≤ k ∧ Alpha z ∧
  ∀ H' o us xs, Same H H' → H o = none → H' o = some (.lst us) → RowsL H' us xs → xs.length ≤ 8 → (∀ x ∈ xs, Good x) → Q (.ref o) H'
abbrev nLi : List Str := ["_law_script", "_law_at", "_law_letters_here", "_law_row_here", "_law_many", "_law_share", "_law_rows", "_law_k", "_law_cell_here"]
theorem scList : FnScope nLi ["_law_script", "_law_at", "_law_letters_here"] (defScope sList) := ⟨rfl, rfl, rfl, by decide +kernel, rfl, by decide +kernel, by decide +kernel⟩
theorem good_all : Good (Str.ofString "", Str.ofString "", false) := by
  have e : tl (Str.ofString "") = [] := by decide +kernel
  exact ⟨by decide, by decide, fun i c h => by rw [show tl ((Str.ofString "", Str.ofString "", false) : Rw).1 = [] from e] at h; simp at h, fun i c h => by rw [show tl ((Str.ofString "", Str.ofString "", false) : Rw).2.1 = [] from e] at h; simp at h⟩
theorem ok_list {f f_cell f_row f_joint : Addr} {fd fd_cell fd_row fd_joint : FuncData} (B : Blt mg) (F : Fun K "_law_list" "_law_list" sList f fd)
    (F_cell : Fun K "_law_cell" "_law_cell" sCell f_cell fd_cell) (b_cell : Binds K fd_cell ["_law_script", "_law_k"] []) (g_cell : mg "_law_cell" = some (.ref f_cell))
    (F_row : Fun K "_law_row" "_law_row" sRow f_row fd_row) (b_row : Binds K fd_row ["_law_cell_here", "_law_limits"] []) (g_row : mg "_law_row" = some (.ref f_row))
    (F_joint : Fun K "_law_joint" "_law_joint" sJoint f_joint fd_joint) (b_joint : Binds K fd_joint ["_law_cell_here", "_law_letters_here", "_law_share"] []) (g_joint : mg "_law_joint" = some (.ref f_joint)) :
    FnOk P w K mg base CX0 3 f fd ["_law_script", "_law_at", "_law_letters_here"] (spList K) := by
  have G_cell : FnOk P w K mg base CX0 1 f_cell fd_cell ["_law_script", "_law_k"] (spCell K) := ok_cell B F_cell
  have G_row : FnOk P w K mg base CX0 1 f_row fd_row ["_law_cell_here", "_law_limits"] (spRow K) := ok_row B F_row
  have G_joint : FnOk P w K mg base CX0 2 f_joint fd_joint ["_law_cell_here", "_law_letters_here", "_law_share"] spJoint := ok_joint B F_joint F_row b_row g_row
  refine F.ok scList (fun vs H Q E h => ?_) (fun cdv A0 outer s H vs Q E hr h => ?_)
  · obtain ⟨a, ns, k, z, rfl, _⟩ := h; rfl
  · obtain ⟨a, ns, k, z, rfl, hS, hlen, hk, hz, q⟩ := h
    have hr1 : Room 1 _ := hr.mono (by decide)
    refine ⟨_, (pss_cons (ps_set (i := 3) scList.nd rfl (.inl rfl) (pe_call G_row hr1 (by rfl) g_row F_row.kp b_row .nil pass0 (pa_cons (pe_call G_cell hr1 (by rfl) g_cell F_cell.kp b_cell .nil pass0 (pa_cons (pv 0) (pa_cons (pv 1) pa_nil))) (pa_cons (pe_lst (pa_cons pe_int (pa_cons pe_int (pa_cons pe_int (pa_cons pe_int pa_nil))))) pa_nil))))
      (pss_cons (ps_set (i := 4) scList.nd rfl (.inl rfl) (pe_ix ix_list (pv 3) pe_int (fun _ _ => rfl)))
      (Evl.pss_cut (ps_if (pt_cmpR op_eq (pe_ix ix_list (pv 3) pe_int (fun _ _ => rfl)) pe_int (nomark _))
      (pss_one (ps_set (i := 4) scList.nd rfl (.inl rfl) (pe_ix ix_list (pv 3) pe_int (fun _ _ => rfl))))
      pss_nil)
      (pss_cons (ps_set (i := 5) scList.nd rfl (.inl rfl) pe_int)
      (Evl.pss_cut (ps_if (pt_cmpR op_gt (pe_ix ix_list (pv 3) pe_int (fun _ _ => rfl)) pe_int (nomark _))
      (pss_one (ps_set (i := 5) scList.nd rfl (.inl rfl) pe_int))
      pss_nil)
      (pss_cons (ps_set (i := 6) scList.nd rfl (.inl rfl) (pe_lst pa_nil))
      (pss_cons (ps_for (PassesOwn.never) rfl (pi_range1 (by rfl) B.range (pa_cons (pv 4) pa_nil)) (pg_name (i := 7) scList.nd rfl (.inl rfl))
      (pss_cons (ps_set (i := 8) scList.nd rfl (.inl rfl) (pe_call G_cell hr1 (by rfl) g_cell F_cell.kp b_cell .nil pass0 (pa_cons (pv 0) (pa_cons (pe_op op_add (pe_op op_add (pv 1) pe_int) (pv 7)) pa_nil))))
       (pss_one (ps_expr (pe_bm PySem.F.plainAttrs_list PySem.F.slot_list_append PySem.F.type_list_append mt_append (pv 6) (pa_cons (pe_call G_joint hr (by rfl) g_joint F_joint.kp b_joint .nil pass0 (pa_cons (pe_op op_add (pv 8) (pv 7)) (pa_cons (pv 2) (pa_cons (pv 5) pa_nil)))) pa_nil))))))
      (pss_cons (ps_if (pt_cmpR op_gt (pe_ix ix_list (pv 3) pe_int (fun _ _ => rfl)) pe_int (nomark _))
      (pss_one (ps_expr (pe_bm PySem.F.plainAttrs_list PySem.F.slot_list_append PySem.F.type_list_append mt_append (pv 6) (pa_cons (pe_tup (pa_cons pe_str (pa_cons pe_str (pa_cons pe_bl pa_nil)))) pa_nil))))
      pss_nil)
      (pss_one (ps_ret (pv 6))))))))))), ?_⟩
    refine ⟨.ref a, rfl, .int k, rfl, a, ns, k, rfl, hS, hlen, hk, fun c1 => ⟨(by show 4 ≤ sizeLine; decide), fun l nl => ?_⟩⟩
    refine ⟨c1, l, [4, 5, 8, 3], rfl, SqL.of (by rw [upd_same]; rfl), by decide, by decide, fun H2 R rs s2 nR eR hrow => ?_⟩
    have sA : Same H H2 := (same_new nl).trans s2
    obtain ⟨g0, a0, g00, g01⟩ := hrow.2 0 4 rfl
    obtain ⟨g1, a1, g10, g11⟩ := hrow.2 1 5 rfl
    obtain ⟨g2, a2, g20, g21⟩ := hrow.2 2 8 rfl
    obtain ⟨g3, a3, g30, g31⟩ := hrow.2 3 3 rfl
    refine ⟨.ref R, rfl, R, _, 1, .int g1, rfl, rfl, SqL.of eR, atI_nat (j := 1) (at1 a1), ?_⟩
    refine ⟨fun σ H' => ∃ m : Nat, σ = [some (.ref a), some (.int k), some (.str z), some (.ref R), some (.int (m : Int)), none, none, none, none] ∧ H2 = H' ∧ m ≤ 7, ?_, ?_⟩
    · obtain ⟨n, en, n7⟩ : ∃ n : Nat, g1 = (n : Int) ∧ n ≤ 7 := ⟨g1.toNat, by omega, by omega⟩
      obtain ⟨n2, en2, n27⟩ : ∃ n : Nat, g2 = (n : Int) ∧ n ≤ 7 := ⟨g2.toNat, by omega, by omega⟩
      refine ⟨.ref R, rfl, R, _, 0, .int g0, rfl, rfl, SqL.of eR, atI_nat (j := 0) (at1 a0), rfl, _, rfl, ite2 (fun _ => ?_) (fun _ => ⟨n, by rw [en]; rfl, rfl, n7⟩)⟩
      refine ⟨.ref R, rfl, R, _, 2, .int g2, rfl, rfl, SqL.of eR, atI_nat (j := 2) (at1 a2), n2, by rw [en2]; rfl, rfl, n27⟩
    rintro σ _ ⟨m, rfl, rfl, hm7⟩
    refine ⟨fun σ H' => ∃ sh : Int, σ = [some (.ref a), some (.int k), some (.str z), some (.ref R), some (.int (m : Int)), some (.int sh), none, none, none] ∧ H2 = H', ?_, ?_⟩
    · refine ⟨.ref R, rfl, R, _, 3, .int g3, rfl, rfl, SqL.of eR, atI_nat (j := 3) (at1 a3), g3, 0, rfl, rfl, _, rfl, ite2 (fun _ => ⟨2, rfl, rfl⟩) (fun _ => ⟨1, rfl, rfl⟩)⟩
    rintro σ _ ⟨sh, rfl, rfl⟩
    refine ⟨Nat.zero_le _, fun o no => ?_⟩
    have so : Same H2 (upd H2 o (.lst [])) := same_new no
    have eo : (upd H2 o (.lst [])) o = some (.lst []) := upd_same
    have noH : H o = none := sA.free no
    generalize upd H2 o (.lst []) = H3 at so eo ⊢
    refine ⟨.int (m : Int), rfl, (m : Int), rfl, by omega, by omega, ?_⟩
    rw [Int.toNat_natCast]
    refine for_range (lo := 0) (n := m) (fun i σ H' => ∃ (y7 y8 : Option V) (us : List V) (xs : List Rw), σ = [some (.ref a), some (.int k), some (.str z), some (.ref R), some (.int (m : Int)), some (.int sh), some (.ref o), y7, y8] ∧ Same H2 H' ∧ H' o = some (.lst us) ∧ RowsL H' us xs ∧ xs.length = i ∧ ∀ x ∈ xs, Good x)
      ⟨none, none, [], [], rfl, so, eo, RowsL.nil, rfl, fun x h => absurd h List.not_mem_nil⟩ ?_ ?_
    · rintro i σ H' hi ⟨y7, y8, us, xs, rfl, sm, ho, hrw, hxl, hgd⟩
      have e0 : (0 : Int) + (i : Int) = (i : Int) := by omega
      rw [e0]
      have hul := hrw.1
      refine ⟨.ref a, rfl, .int k, rfl, k, 1, rfl, rfl, .int (i : Int), rfl, k + 1, (i : Int), rfl, rfl, a, ns, k + 1 + (i : Int), rfl, (sA.trans sm).seq hS, hlen, by omega, fun c => ?_⟩
      refine ⟨.ref o, rfl, .inl ⟨rfl, _, SqL.of ho⟩, .int c, rfl, .int (i : Int), rfl, c, (i : Int), rfl, rfl, .str z, rfl, .int sh, rfl, c + (i : Int), sh, z, rfl, hz, fun H4 t x s4 ht gx => ?_⟩
      refine ⟨o, us, .ref t, rfl, rfl, s4 _ _ ho, small1000 (by omega), ?_⟩
      have ho4 := s4 _ _ ho
      have st : ∀ b ys, H' b = some (.tup ys) → upd H4 o (.lst (us ++ [.ref t])) b = some (.tup ys) := fun b ys e => by
        rw [upd_ne (ne_of (s4 _ _ e) ho4 (by intro z; cases z))]; exact s4 _ _ e
      refine ⟨some (.int (i : Int)), some (.int c), us ++ [.ref t], xs ++ [x], rfl, same_at (sm.trans s4) no, upd_same, (hrw.mono st).snoc ⟨t, rfl, by rw [upd_ne (ne_of ht ho4 (by intro z; cases z))]; exact ht⟩, by rw [List.length_append, hxl]; rfl, fun y hy => ?_⟩
      rcases List.mem_append.mp hy with h | h
      · exact hgd y h
      · rw [List.mem_singleton.mp h]; exact gx
    rintro σ H4 ⟨y7, y8, us, xs, rfl, sm4, ho, hrw, hxl, hgd⟩
    have hul := hrw.1
    have sB : Same H H4 := sA.trans sm4
    refine ⟨.ref R, rfl, R, _, 3, .int g3, rfl, rfl, SqL.of (sm4 _ _ eR), atI_nat (j := 3) (at1 a3), g3, 0, rfl, rfl, _, rfl, ite2 (fun _ => ?_) (fun _ => ⟨.ref o, rfl, q H4 o us xs sB noH ho hrw (by omega) hgd⟩)⟩
    refine ⟨.ref o, rfl, .inl ⟨rfl, _, SqL.of ho⟩, (by show 3 ≤ sizeLine; decide), fun t nt => ?_⟩
    have sT : Same H4 (upd H4 t (.tup [.str (Str.ofString ""), .str (Str.ofString ""), .bl false])) := same_new nt
    have eT : upd H4 t (.tup [.str (Str.ofString ""), .str (Str.ofString ""), .bl false]) t = some (.tup [.str (Str.ofString ""), .str (Str.ofString ""), .bl false]) := upd_same
    generalize upd H4 t (.tup [.str (Str.ofString ""), .str (Str.ofString ""), .bl false]) = H5 at sT eT ⊢
    have ho5 := sT _ _ ho
    refine ⟨o, us, .ref t, rfl, rfl, ho5, small1000 (by omega), ?_⟩
    have st : ∀ b ys, H4 b = some (.tup ys) → upd H5 o (.lst (us ++ [.ref t])) b = some (.tup ys) := fun b ys e => by
      rw [upd_ne (ne_of (sT _ _ e) ho5 (by intro z; cases z))]; exact sT _ _ e
    refine ⟨.ref o, rfl, q _ o (us ++ [.ref t]) (xs ++ [(Str.ofString "", Str.ofString "", false)]) (sA.trans (same_at (sm4.trans sT) no)) noH upd_same ((hrw.mono st).snoc ⟨t, rfl, by rw [upd_ne (ne_of eT ho5 (by intro z; cases z))]; exact eT⟩) (by rw [List.length_append]; show xs.length + 1 ≤ 8; omega) fun y hy => ?_⟩
    rcases List.mem_append.mp hy with h | h
    · exact hgd y h
    · rw [List.mem_singleton.mp h]; exact good_all
end
end K31

set_option maxRecDepth 100000
set_option maxHeartbeats 4000000
namespace K31
open PySem PySem.Spec PyProof.Rows L2 RJ
/-! ### words over letters -/
def ext (ls : List Nat) (w : Str) : List Str := ls.map fun c => w ++ ⟨#[c]⟩
def wordsZ (ls : List Nat) : Nat → List Str
  | 0 => [Str.ofString ""]
  | n + 1 => (wordsZ ls n).flatMap (ext ls)
def tellN (ls : List Nat) : Nat → List Str
  | 0 => []
  | n + 1 => tellN ls n ++ wordsZ ls (n + 1)
theorem flat_len (ls : List Nat) : ∀ ws : List Str, (ws.flatMap (ext ls)).length = ws.length * ls.length
  | [] => by simp
  | w :: ws => by
    rw [List.flatMap_cons, List.length_append, flat_len ls ws, List.length_cons, Nat.succ_mul]
    simp [ext]; omega
theorem words_len (ls : List Nat) : ∀ n, (wordsZ ls n).length = ls.length ^ n
  | 0 => rfl
  | n + 1 => by
    show ((wordsZ ls n).flatMap (ext ls)).length = _
    rw [flat_len, words_len ls n, Nat.pow_succ]
theorem words_le {ls : List Nat} {n : Nat} (h : ls.length ≤ 3) (hn : n ≤ 6) : (wordsZ ls n).length ≤ 729 := by
  rw [words_len]
  exact Nat.le_trans (Nat.pow_le_pow_left h n) (Nat.pow_le_pow_right (by decide) hn : 3 ^ n ≤ 3 ^ 6)
theorem tell_le {ls : List Nat} (h : ls.length ≤ 3) : ∀ n, n ≤ 6 → (tellN ls n).length ≤ n * 729
  | 0, _ => Nat.zero_le _
  | n + 1, hn => by
    show (tellN ls n ++ wordsZ ls (n + 1)).length ≤ _
    rw [List.length_append]
    have h1 := tell_le h n (by omega)
    have h2 := words_le (n := n + 1) h hn
    omega
theorem tl_one (c : Nat) : tl (⟨#[c]⟩ : Str) = [c] := rfl
theorem mem_words {ls : List Nat} : ∀ {n : Nat} {w : Str}, w ∈ wordsZ ls n ↔ w.length = n ∧ ∀ c ∈ tl w, c ∈ ls
  | 0, w => by
    constructor
    · intro h
      rw [List.mem_singleton.mp h]
      exact ⟨by decide, fun c hc => absurd hc (by rw [show tl (Str.ofString "") = [] by decide +kernel]; exact List.not_mem_nil)⟩
    · rintro ⟨h, _⟩
      have e : tl w = [] := List.eq_nil_of_length_eq_zero (by rw [tl_len]; exact h)
      refine List.mem_singleton.mpr (str_eq ?_)
      rw [e]; decide +kernel
  | n + 1, w => by
    show w ∈ (wordsZ ls n).flatMap (ext ls) ↔ _
    rw [List.mem_flatMap]
    constructor
    · rintro ⟨v, hv, hw⟩
      obtain ⟨c, hc, rfl⟩ := List.mem_map.mp hw
      obtain ⟨h1, h2⟩ := mem_words.mp hv
      refine ⟨by rw [len_add, h1]; rfl, fun d hd => ?_⟩
      rw [tl_add, tl_one] at hd
      rcases List.mem_append.mp hd with h | h
      · exact h2 d h
      · rw [List.mem_singleton.mp h]; exact hc
    · rintro ⟨h1, h2⟩
      have hl : (tl w).length = n + 1 := by rw [tl_len]; exact h1
      have hn : n < (tl w).length := by omega
      have e : tl w = (tl w).take n ++ [(tl w)[n]'hn] := by
        have := List.take_add_one (l := tl w) (i := n)
        rw [List.getElem?_eq_getElem hn, List.take_of_length_le (by omega)] at this
        exact this
      refine ⟨⟨((tl w).take n).toArray⟩, mem_words.mpr ⟨?_, fun c hc => h2 c (List.mem_of_mem_take hc)⟩, List.mem_map.mpr ⟨(tl w)[n]'hn, h2 _ (List.getElem_mem hn), str_eq ?_⟩⟩
      · rw [← tl_len]; show ((tl w).take n).length = n; rw [List.length_take]; omega
      · rw [tl_add, tl_one]; show (tl w).take n ++ _ = _; exact e.symm
theorem mem_tell {ls : List Nat} : ∀ {n : Nat} {w : Str}, w ∈ tellN ls n ↔ (1 ≤ w.length ∧ w.length ≤ n) ∧ ∀ c ∈ tl w, c ∈ ls
  | 0, w => ⟨fun h => absurd h List.not_mem_nil, fun h => by omega⟩
  | n + 1, w => by
    show w ∈ tellN ls n ++ wordsZ ls (n + 1) ↔ _
    rw [List.mem_append, mem_tell, mem_words]
    constructor
    · rintro (⟨h1, h2⟩ | ⟨h1, h2⟩)
      · exact ⟨by omega, h2⟩
      · exact ⟨by omega, h2⟩
    · rintro ⟨h1, h2⟩
      by_cases h : w.length ≤ n
      · exact .inl ⟨by omega, h2⟩
      · exact .inr ⟨by omega, h2⟩
/-! ### windows -/
theorem fits_win {l r w : List Nat} {g : Nat} (hl : l.length ≤ 3) (hr : r.length ≤ 3) (hg : g ≤ w.length) :
    fitsB l r w g = fitsB l r ((w.drop (g - 3)).take (min g 3 + 3)) (min g 3) := by
  have e1 : ((w.drop (g - 3)).take (min g 3 + 3)).take (min g 3) = (w.take g).drop (g - 3) := by
    rw [List.take_take, List.drop_take, show min (min g 3) (min g 3 + 3) = g - (g - 3) by omega]
  have e2 : ((w.drop (g - 3)).take (min g 3 + 3)).drop (min g 3) = (w.drop g).take 3 := by
    rw [List.drop_take, List.drop_drop, show min g 3 + 3 - min g 3 = 3 by omega, show g - 3 + min g 3 = g by omega]
  unfold fitsB
  rw [e1, e2]
  have lt : (w.take g).length = g := by rw [List.length_take]; omega
  generalize w.take g = t at lt
  generalize w.drop g = u
  have l1 : (t.drop (g - 3)).length = min g 3 := by rw [List.length_drop]; omega
  have l2 : (u.take 3).length = min 3 u.length := List.length_take
  rw [l1, l2, lt]
  have d1 : decide (g + 1 < l.length) = decide (min g 3 + 1 < l.length) := decide_eq_decide.mpr (by omega)
  have d2 : decide (u.length + 1 < r.length) = decide (min 3 u.length + 1 < r.length) := decide_eq_decide.mpr (by omega)
  have s1 : (46 :: t).drop (g + 1 - l.length) = (46 :: t.drop (g - 3)).drop (min g 3 + 1 - l.length) := by
    by_cases h : g ≤ 3
    · rw [show g - 3 = 0 by omega, List.drop_zero, show min g 3 = g by omega]
    · rw [show g + 1 - l.length = (g - l.length) + 1 by omega, show min g 3 + 1 - l.length = (3 - l.length) + 1 by omega, List.drop_succ_cons, List.drop_succ_cons, List.drop_drop, show g - 3 + (3 - l.length) = g - l.length by omega]
  have s2 : (u ++ [46]).take r.length = (u.take 3 ++ [46]).take r.length := by
    by_cases h : u.length ≤ 3
    · rw [List.take_of_length_le h]
    · rw [List.take_append_of_le_length (by omega), List.take_append_of_le_length (by rw [l2]; omega), List.take_take, show min r.length 3 = r.length by omega]
  rw [d1, d2, s1, s2]
theorem isJ_win {w : List Nat} {g : Nat} (hg : g ≤ w.length) : ∀ {xs : List Rw}, (∀ x ∈ xs, Good x) → isJ xs w g = isJ xs ((w.drop (g - 3)).take (min g 3 + 3)) (min g 3)
  | [], _ => rfl
  | x :: xs, h => by
    have gx := h x List.mem_cons_self
    unfold isJ
    rw [fits_win (l := tl x.1) (r := tl x.2.1) (by rw [tl_len]; exact gx.l) (by rw [tl_len]; exact gx.r) hg, isJ_win hg fun y hy => h y (List.mem_cons_of_mem _ hy)]
def win (w : Str) (g : Nat) : Str := ⟨(((tl w).drop (g - 3)).take (min g 3 + 3)).toArray⟩
theorem win_tl (w : Str) (g : Nat) : tl (win w g) = ((tl w).drop (g - 3)).take (min g 3 + 3) := rfl
theorem win_len {w : Str} {g : Nat} (hg : g ≤ w.length) : (win w g).length = min g 3 + min 3 (w.length - g) := by
  rw [← tl_len, win_tl, List.length_take, List.length_drop, tl_len]; omega
/-! ### what decides somewhere -/
theorem first_congr {α : Type} {f f' : α → Bool} : ∀ {xs : List α} {k : Nat}, (∀ x ∈ xs, f x = f' x) → first f xs k = first f' xs k
  | [], _, _ => rfl
  | x :: xs, k, h => by
    unfold first
    rw [h x List.mem_cons_self, first_congr fun y hy => h y (List.mem_cons_of_mem _ hy)]
theorem dec_win {xs : List Rw} {w : Str} {g : Nat} (hx : ∀ x ∈ xs, Good x) (hg : g ≤ w.length) : dec xs (tl w) g = dec xs (tl (win w g)) (min g 3) := by
  refine first_congr fun x h => ?_
  have gx := hx x h
  rw [win_tl]
  exact fits_win (by rw [tl_len]; exact gx.l) (by rw [tl_len]; exact gx.r) (by rw [tl_len]; exact hg)
def Used (xs : List Rw) (ls : List Nat) (k : Option Nat) : Prop := ∃ (w : Str) (g : Nat), (∀ c ∈ tl w, c ∈ ls) ∧ 1 ≤ g ∧ g < w.length ∧ dec xs (tl w) g = k
theorem win_in {w : Str} {g : Nat} {ls : List Nat} (hw : ∀ c ∈ tl w, c ∈ ls) : ∀ c ∈ tl (win w g), c ∈ ls := fun c hc => hw c (by rw [win_tl] at hc; exact List.mem_of_mem_drop (List.mem_of_mem_take hc))
theorem used_tell {xs : List Rw} {ls : List Nat} {k : Option Nat} (hx : ∀ x ∈ xs, Good x) : Used xs ls k ↔ ∃ w ∈ tellN ls 6, ∃ g, 1 ≤ g ∧ g < w.length ∧ dec xs (tl w) g = k := by
  constructor
  · rintro ⟨w, g, hw, h1, h2, rfl⟩
    have hl := win_len (w := w) (g := g) (by omega)
    exact ⟨win w g, mem_tell.mpr ⟨by omega, win_in hw⟩, min g 3, by omega, by omega, (dec_win hx (by omega)).symm⟩
  · rintro ⟨w, hw, g, h1, h2, h3⟩
    exact ⟨w, g, (mem_tell.mp hw).2, h1, h2, h3⟩
theorem used_sides {xs : List Rw} {ls : List Nat} {k : Option Nat} (hx : ∀ x ∈ xs, Good x) : Used xs ls k ↔ ∃ l ∈ tellN ls 3, ∃ r ∈ tellN ls 3, dec xs (tl (l ++ r)) l.length = k := by
  constructor
  · rintro ⟨w, g, hw, h1, h2, rfl⟩
    have hl := win_len (w := w) (g := g) (by omega)
    have hin := win_in (g := g) hw
    have e1 : (⟨((tl (win w g)).take (min g 3)).toArray⟩ : Str).length = min g 3 := by
      rw [← tl_len]; show ((tl (win w g)).take (min g 3)).length = _; rw [List.length_take, tl_len]; omega
    have e2 : (⟨((tl (win w g)).drop (min g 3)).toArray⟩ : Str).length = min 3 (w.length - g) := by
      rw [← tl_len]; show ((tl (win w g)).drop (min g 3)).length = _; rw [List.length_drop, tl_len]; omega
    refine ⟨⟨((tl (win w g)).take (min g 3)).toArray⟩, mem_tell.mpr ⟨by omega, fun c hc => hin c (List.mem_of_mem_take hc)⟩, ⟨((tl (win w g)).drop (min g 3)).toArray⟩, mem_tell.mpr ⟨by omega, fun c hc => hin c (List.mem_of_mem_drop hc)⟩, ?_⟩
    rw [e1, tl_add]
    show dec xs ((tl (win w g)).take (min g 3) ++ (tl (win w g)).drop (min g 3)) (min g 3) = _
    rw [List.take_append_drop]
    exact (dec_win hx (by omega)).symm
  · rintro ⟨l, hl, r, hr, h⟩
    have h1 := mem_tell.mp hl
    have h2 := mem_tell.mp hr
    refine ⟨l ++ r, l.length, fun c hc => ?_, h1.1.1, by rw [len_add]; omega, h⟩
    rw [tl_add] at hc
    rcases List.mem_append.mp hc with h3 | h3
    · exact h1.2 c h3
    · exact h2.2 c h3
noncomputable def usedB (xs : List Rw) (ls : List Nat) (k : Option Nat) : Bool := @decide (Used xs ls k) (Classical.propDecidable _)
theorem usedB_iff {xs : List Rw} {ls : List Nat} {k : Option Nat} : usedB xs ls k = true ↔ Used xs ls k := by
  unfold usedB
  exact @decide_eq_true_iff _ (Classical.propDecidable _)
noncomputable def idleTo (xs : List Rw) (ls : List Nat) : Nat → List Nat
  | 0 => []
  | i + 1 => idleTo xs ls i ++ (if usedB xs ls (some i) = true then [] else [i])
noncomputable def idleL (xs : List Rw) (ls : List Nat) : List Nat := idleTo xs ls xs.length
theorem idle_len (xs : List Rw) (ls : List Nat) : ∀ i, (idleTo xs ls i).length ≤ i
  | 0 => Nat.le_refl _
  | i + 1 => by
    have := idle_len xs ls i
    unfold idleTo
    rw [List.length_append]
    split <;> simp <;> omega
theorem mem_idle {xs : List Rw} {ls : List Nat} {k : Nat} : ∀ {i : Nat}, k ∈ idleTo xs ls i ↔ k < i ∧ usedB xs ls (some k) = false
  | 0 => ⟨fun h => absurd h List.not_mem_nil, fun h => absurd h.1 (Nat.not_lt_zero _)⟩
  | i + 1 => by
    unfold idleTo
    rw [List.mem_append, mem_idle]
    constructor
    · rintro (⟨h1, h2⟩ | h)
      · exact ⟨by omega, h2⟩
      · split at h
        · cases h
        · rename_i hu
          rw [List.mem_singleton.mp h]; exact ⟨by omega, by simpa using hu⟩
    · rintro ⟨h1, h2⟩
      by_cases h : k < i
      · exact .inl ⟨h, h2⟩
      · obtain rfl : k = i := by omega
        exact .inr (by rw [if_neg (by rw [h2]; exact Bool.false_ne_true)]; exact List.mem_cons_self)
/-! ### the rows that decide somewhere -/
def keep (u : Nat → Bool) : List Rw → Nat → List Rw
  | [], _ => []
  | x :: xs, k => if u k = true then x :: keep u xs (k + 1) else keep u xs (k + 1)
theorem keep_snoc (u : Nat → Bool) (x : Rw) : ∀ (xs : List Rw) (k : Nat), keep u (xs ++ [x]) k = keep u xs k ++ (if u (k + xs.length) = true then [x] else [])
  | [], k => by
    show (if u k = true then [x] else []) = [] ++ (if u (k + 0) = true then [x] else [])
    rw [List.nil_append, Nat.add_zero]
  | y :: ys, k => by
    have ih := keep_snoc u x ys (k + 1)
    rw [show k + 1 + ys.length = k + (y :: ys).length by rw [List.length_cons]; omega] at ih
    show (if u k = true then y :: keep u (ys ++ [x]) (k + 1) else keep u (ys ++ [x]) (k + 1)) = (if u k = true then y :: keep u ys (k + 1) else keep u ys (k + 1)) ++ _
    rw [ih]
    split <;> rfl
theorem keep_sub (u : Nat → Bool) : ∀ (xs : List Rw) (k : Nat), ∀ x ∈ keep u xs k, x ∈ xs
  | [], _, x, h => h
  | y :: ys, k, x, h => by
    unfold keep at h
    split at h
    · rcases List.mem_cons.mp h with h | h
      · rw [h]; exact List.mem_cons_self
      · exact List.mem_cons_of_mem _ (keep_sub u ys (k + 1) x h)
    · exact List.mem_cons_of_mem _ (keep_sub u ys (k + 1) x h)
theorem keep_len (u : Nat → Bool) : ∀ (xs : List Rw) (k : Nat), (keep u xs k).length ≤ xs.length
  | [], _ => Nat.le_refl _
  | y :: ys, k => by
    have := keep_len u ys (k + 1)
    unfold keep
    split <;> simp <;> omega
theorem isJ_keep {u : Nat → Bool} {w : List Nat} {g : Nat} : ∀ {xs : List Rw} {k : Nat}, (∀ n, first (fun x : Rw => fitsB (tl x.1) (tl x.2.1) w g) xs k = some n → u n = true) → isJ (keep u xs k) w g = isJ xs w g
  | [], _, _ => rfl
  | x :: xs, k, h => by
    by_cases hf : fitsB (tl x.1) (tl x.2.1) w g = true
    · have hu : u k = true := h k (by unfold first; rw [if_pos hf])
      unfold keep
      rw [if_pos hu]
      unfold isJ
      rw [if_pos hf, if_pos hf]
    · have ih := isJ_keep (u := u) (xs := xs) (k := k + 1) fun n hn => h n (by unfold first; rw [if_neg hf]; exact hn)
      have e : isJ (x :: xs) w g = isJ xs w g := by rw [isJ]; rw [if_neg hf]
      rw [e, ← ih]
      show isJ (if u k = true then x :: keep u xs (k + 1) else keep u xs (k + 1)) w g = isJ (keep u xs (k + 1)) w g
      split
      · rw [isJ]; rw [if_neg hf]
      · rfl
theorem gaps_keep {xs : List Rw} {ls : List Nat} {w : Str} (hw : ∀ c ∈ tl w, c ∈ ls) : gapsOf (keep (fun k => usedB xs ls (some k)) xs 0) (tl w) = gapsOf xs (tl w) := by
  have key : ∀ k, k ≤ (tl w).length - 1 → gapsTo (keep (fun k => usedB xs ls (some k)) xs 0) (tl w) k = gapsTo xs (tl w) k := by
    intro k
    induction k with
    | zero => intro _; rfl
    | succ k ih =>
      intro hk
      rw [tl_len] at hk
      have e : isJ (keep (fun k => usedB xs ls (some k)) xs 0) (tl w) (1 + k) = isJ xs (tl w) (1 + k) :=
        isJ_keep fun n hn => usedB_iff.mpr ⟨w, 1 + k, hw, by omega, by omega, hn⟩
      unfold gapsTo
      rw [e, ih (by rw [tl_len]; omega)]
  exact key _ (Nat.le_refl _)
theorem gaps_len (xs : List Rw) (w : Str) (h : w.length ≤ 100) : (gapsOf xs (tl w)).length ≤ 100 := by
  have := gapsTo_len xs (tl w) ((tl w).length - 1)
  unfold gapsOf; rw [tl_len] at this ⊢; omega
end K31

set_option maxRecDepth 100000
set_option maxHeartbeats 4000000
namespace K31
open PySem PySem.Spec PyProof.Rows L2 RJ
structure Lets (z : Str) : Prop where
  L : ∀ c ∈ tl z, isL c = true
  hi : z.length ≤ 3
theorem ext_take {ls : List Nat} {w : Str} {j c : Nat} (h : ls[j]? = some c) : (ls.take (j + 1)).map (fun c => w ++ (⟨#[c]⟩ : Str)) = (ls.take j).map (fun c => w ++ (⟨#[c]⟩ : Str)) ++ [w ++ ⟨#[c]⟩] := by
  rw [List.take_add_one, h, List.map_append]; rfl
theorem flat_take {ls : List Nat} {ws : List Str} {i : Nat} {w : Str} (h : ws[i]? = some w) : (ws.take (i + 1)).flatMap (ext ls) = (ws.take i).flatMap (ext ls) ++ ext ls w := by
  rw [List.take_add_one, h, List.flatMap_append]
  congr 1
  show ext ls w ++ [] = _
  rw [List.append_nil]
theorem word_len {ls : List Nat} {n i : Nat} {w : Str} (h : (wordsZ ls n)[i]? = some w) : w.length = n := (mem_words.mp (List.mem_of_getElem? h)).1
section
variable {P : Program} {w : World} {K : PySem.W.Frag} {mg : Str → Option Value} {base : Heap} {t1 t2 t3 t4 t5 : Tok}
/-! ### _words -/
def spWords : Sp := fun vs H Q _ => ∃ (z : Str) (n : Nat), vs = [.str z, .int (n : Int)] ∧ z.length ≤ 3 ∧ n ≤ 6 ∧ ∀ H' o, Same H H' → H o = none → H' o = some (.lst ((wordsZ (tl z) n).map V.str)) → Q (.ref o) H'
abbrev nW : List Str := ["letters", "length", "found", "_", "word", "letter"]
theorem scW : FnScope nW ["letters", "length"] (defScope sWords) := ⟨rfl, rfl, rfl, by decide +kernel, rfl, by decide +kernel, by decide +kernel⟩
theorem ok_words {f : Addr} {fd : FuncData} (B : Blt mg) (F : Fun K "_words" "_words" sWords f fd) : FnOk P w K mg base CX0 1 f fd ["letters", "length"] spWords := by
  refine F.ok scW (fun vs H Q E h => ?_) (fun cdv A0 outer s H vs Q E hr h => ?_)
  · obtain ⟨z, n, rfl, _⟩ := h; rfl
  · obtain ⟨z, n, rfl, hz, hn, q⟩ := h
    refine ⟨_, (pss_cons (ps_set (i := 2) scW.nd rfl (.inl rfl) (pe_lst (pa_cons pe_str pa_nil)))
      (pss_cons (ps_for (PassesOwn.never) rfl (pi_range1 (by rfl) B.range (pa_cons (pv 1) pa_nil)) (pg_name (i := 3) scW.nd rfl (.inl rfl))
      (pss_one (ps_setLc2 (i := 2) (own := [("word", 4), ("letter", 5)]) (vs1 := [5]) (g := gName 4) (g1 := gName 5) (tt := tYes) (tt1 := tYes) rfl scW.nd rfl rfl (sw_true rfl rfl rfl (by decide +kernel)) (pi_list (pv 2)) (blkOk_by (N := nW) (sc := defScope sWords) (by decide +kernel)) (by decide) (fun _ _ _ _ _ => (pg_name (i := 4) scW.nd rfl (.inl rfl))) (fun _ _ _ _ _ => pts_nil) (fun _ _ _ _ _ => (pi_str (pv 0))) (fun _ _ _ _ _ => (pg_name (i := 5) scW.nd rfl (.inl rfl))) (fun _ _ _ _ _ => pts_nil) (fun _ _ _ _ _ => (pe_op op_add_str (pv 4) (pv 5))))))
      (pss_one (ps_ret (pv 2))))), ?_⟩
    have hzl : (tl z).length ≤ 3 := by rw [tl_len]; exact hz
    refine ⟨(by show 1 ≤ sizeLine; decide), fun o no => ?_⟩
    refine ⟨.int (n : Int), rfl, (n : Int), rfl, by omega, by omega, ?_⟩
    rw [Int.toNat_natCast]
    refine for_range (lo := 0) (n := n) (fun k σ H' => ∃ (y3 : Option V) (b : Addr), σ = [some (.str z), some (.int (n : Int)), some (.ref b), y3, none, none] ∧ H b = none ∧ H' b = some (.lst ((wordsZ (tl z) k).map V.str)) ∧ Same H H') ⟨none, o, rfl, no, upd_same, same_new no⟩ ?_ ?_
    · rintro k σ H1 hk ⟨y3, b, rfl, nb, hb, sm⟩
      have hws := words_le (n := k) hzl (by omega)
      have hwk : (wordsZ (tl z) k).length ≤ 243 := by
        rw [words_len]
        exact Nat.le_trans (Nat.pow_le_pow_left hzl k) (Nat.pow_le_pow_right (by decide) (by omega) : 3 ^ k ≤ 3 ^ 5)
      generalize hW : wordsZ (tl z) k = ws at hb hws hwk
      refine ⟨.ref b, rfl, b, rfl, ⟨_, SqL.of hb⟩, fun D hD => ?_⟩
      refine R4.lc2_out (walk_list (K := K) (a := b) (xs := ws.map V.str)) (fun i H' => H' D = some (.lst (((ws.take i).flatMap (ext (tl z))).map V.str)) ∧ Same H1 H') ⟨upd_same, same_new hD⟩ (fun i H' _ ⟨_, s⟩ => SqL.of (s _ _ hb)) ?_ ?_
      · rintro i v H2 H2' hi ⟨hD2, s2⟩ ⟨rfl, hv⟩
        rw [List.getElem?_map] at hv
        cases en : ws[i]? with
        | none => rw [en] at hv; cases hv
        | some wo =>
        rw [en] at hv; cases hv
        have hilt := (List.getElem?_eq_some_iff.mp en).1
        have hwl : wo.length = k := word_len (ls := tl z) (by rw [hW]; exact en)
        refine ⟨rfl, .str z, rfl, z, rfl, ?_⟩
        refine R4.lc2_in walk_str (fun j H' => H' D = some (.lst (((ws.take i).flatMap (ext (tl z)) ++ ((tl z).take j).map (fun c => wo ++ (⟨#[c]⟩ : Str))).map V.str)) ∧ Same H1 H') ⟨by rw [List.take_zero, List.map_nil, List.append_nil]; exact hD2, s2⟩ (fun _ _ _ _ => trivial) ?_ ?_
        · rintro j x H3 H3' hj ⟨hD3, s3⟩ ⟨rfl, c, hc, rfl⟩
          have hc' : (tl z)[j]? = some c := by simpa [tl] using hc
          have hjl := (List.getElem?_eq_some_iff.mp hc').1
          refine ⟨rfl, .str wo, rfl, .str ⟨#[c]⟩, rfl, wo, ⟨#[c]⟩, rfl, rfl, ?_, _, hD3, ?_, ?_, same_at s3 hD⟩
          · show wo.length + 1 ≤ sizeLine
            exact Nat.le_trans (show wo.length + 1 ≤ 10 by omega) (by decide)
          · rw [List.length_map, List.length_append, flat_len, List.length_map, List.length_take, List.length_take]
            have h1 : min i ws.length * (tl z).length ≤ 243 * 3 := Nat.mul_le_mul (by omega) hzl
            exact small1000 (by omega)
          · rw [upd_same, ext_take hc', ← List.append_assoc, List.map_append (l₁ := _ ++ _)]; rfl
        · rintro H3 ⟨hD3, s3⟩
          refine ⟨?_, s3⟩
          rw [flat_take en]
          have e : (tl z).take z.cps.size = tl z := List.take_of_length_le (by rw [tl_len]; exact Nat.le_refl _)
          rw [e] at hD3
          exact hD3
      · rintro H2 ⟨hD2, s2⟩
        refine ⟨_, D, rfl, sm.free hD, ?_, sm.trans s2⟩
        rw [List.length_map, List.take_length] at hD2
        show _ = some (HO.lst (((wordsZ (tl z) k).flatMap (ext (tl z))).map V.str))
        rw [hW]; exact hD2
    · rintro σ H1 ⟨y3, b, rfl, nb, hb, sm⟩
      exact ⟨.ref b, rfl, q H1 b sm nb hb⟩
/-! ### _telling_words -/
def spTelling : Sp := fun vs H Q _ => ∃ (z : Str), vs = [.str z] ∧ z.length ≤ 3 ∧ ∀ H' o, Same H H' → H o = none → H' o = some (.lst ((tellN (tl z) 6).map V.str)) → Q (.ref o) H'
theorem scTell : FnScope ["letters", "found", "length"] ["letters"] (defScope sTelling) := ⟨rfl, rfl, rfl, by decide +kernel, rfl, by decide +kernel, by decide +kernel⟩
theorem ok_telling {f f_words : Addr} {fd fd_words : FuncData} (B : Blt mg) (Z : Cst mg t1 t2 t3 t4 t5) (F : Fun K "_telling_words" "_telling_words" sTelling f fd)
    (F_words : Fun K "_words" "_words" sWords f_words fd_words) (b_words : Binds K fd_words ["letters", "length"] []) (g_words : mg "_words" = some (.ref f_words)) :
    FnOk P w K mg base CX0 2 f fd ["letters"] spTelling := by
  have G_words : FnOk P w K mg base CX0 1 f_words fd_words ["letters", "length"] spWords := ok_words B F_words
  obtain ⟨t6, gS⟩ := Z.g_SIDE
  refine F.ok scTell (fun vs H Q E h => ?_) (fun cdv A0 outer s H vs Q E hr h => ?_)
  · obtain ⟨z, rfl, _⟩ := h; rfl
  · obtain ⟨z, rfl, hz, q⟩ := h
    refine ⟨_, (pss_cons (ps_set (i := 1) scTell.nd rfl (.inl rfl) (pe_lst pa_nil))
      (pss_cons (ps_for (PassesOwn.never) rfl (pi_range2 (by rfl) B.range (pa_cons pe_int (pa_cons (pe_op op_add (pe_op op_mul pe_int (pe_glob (v := .int 3) (by rfl) gS ⟨_, rfl⟩)) pe_int) pa_nil))) (pg_name (i := 2) scTell.nd rfl (.inl rfl))
      (pss_one (ps_expr (pe_bm PySem.F.plainAttrs_list PySem.F.slot_list_extend PySem.F.type_list_extend mt_extend (pv 1) (pa_cons (pe_call G_words hr (by rfl) g_words F_words.kp b_words .nil pass0 (pa_cons (pv 0) (pa_cons (pv 2) pa_nil))) pa_nil)))))
      (pss_one (ps_ret (pv 1))))), ?_⟩
    have hzl : (tl z).length ≤ 3 := by rw [tl_len]; exact hz
    refine ⟨Nat.zero_le _, fun o no => ?_⟩
    have s1 : Same H (upd H o (.lst [])) := same_new no
    have eo : (upd H o (.lst [])) o = some (.lst ((tellN (tl z) 0).map V.str)) := upd_same
    generalize upd H o (.lst []) = H1 at s1 eo ⊢
    refine ⟨2, 3, rfl, rfl, .inl ⟨by decide, by decide⟩, _, 1, rfl, rfl, 1, _, rfl, ⟨by decide, by decide, by decide, by decide⟩, ?_⟩
    refine for_range (lo := 1) (n := 6) (fun k σ H' => ∃ (y2 : Option V), σ = [some (.str z), some (.ref o), y2] ∧ H' o = some (.lst ((tellN (tl z) k).map V.str)) ∧ Same H H') ⟨none, rfl, eo, s1⟩ ?_ ?_
    · rintro k σ H2 hk ⟨y2, rfl, ho, sm⟩
      have ek : (1 : Int) + (k : Int) = ((k + 1 : Nat) : Int) := by omega
      rw [ek]
      refine ⟨.ref o, rfl, .inl ⟨rfl, _, SqL.of ho⟩, .str z, rfl, .int ((k + 1 : Nat) : Int), rfl, z, k + 1, rfl, hz, by omega, fun H3 b s3 nb eb => ?_⟩
      have h1 := tell_le hzl k (by omega)
      have h2 := words_le (n := k + 1) hzl (by omega)
      refine ⟨o, b, _, _, rfl, rfl, s3 _ _ ho, eb, Nat.le_trans (by rw [List.length_map, List.length_map]; show _ ≤ 6000; omega) (show 6000 ≤ sizeLine by decide), ?_⟩
      refine ⟨_, rfl, ?_, same_at (sm.trans s3) no⟩
      rw [upd_same, ← List.map_append]; rfl
    · rintro σ H2 ⟨y2, rfl, ho, sm⟩
      exact ⟨.ref o, rfl, q H2 o sm no ho⟩
/-! ### idle_joints -/
theorem kO_eq (a b : Option Nat) : (R5.kO a = R5.kO b) ↔ a = b := by
  constructor
  · intro h
    cases a with
    | none => cases b with
      | none => rfl
      | some b => cases h
    | some a => cases b with
      | none => cases h
      | some b =>
        have h1 := Option.some.inj h
        have h2 := Sum.inl.inj h1
        rw [show a = b by omega]
  · rintro rfl; rfl
theorem vO_ov (o : Option Nat) : ov o = R5.vO o := by cases o <;> rfl
noncomputable def idleV (xs : List Rw) (ls : List Nat) (i : Nat) : List V := (idleTo xs ls i).map nV
def spIdleJ (C : Addr) : Sp := fun vs H Q _ => ∃ (p l1 l2 : Addr) (z : Str) (zs : List Str) (xs : List Rw), vs = [.ref p, .str z] ∧ JAt C H p l1 l2 zs xs ∧ zs.length = xs.length ∧ xs.length ≤ 8 ∧ (∀ x ∈ xs, Good x) ∧ z.length ≤ 3 ∧
  ∀ H' o, Same H H' → H o = none → H' o = some (.lst ((idleL xs (tl z)).map nV)) → Q (.ref o) H'
abbrev nIJ : List Str := ["joints", "letters", "deciding", "word", "gap", "index"]
theorem scIJ : FnScope nIJ ["joints", "letters"] (defScope sIdleJ) := ⟨rfl, rfl, rfl, by decide +kernel, rfl, by decide +kernel, by decide +kernel⟩
theorem ok_idlej {C f f_telling_words f_words f_len f_decider f_is_letter f_says f_fits : Addr} {fd fd_telling_words fd_words fd_len fd_decider fd_is_letter fd_says fd_fits : FuncData} (B : Blt mg) (Z : Cst mg t1 t2 t3 t4 t5) (T : Txt K mg C) (F : Fun K "idle_joints" "idle_joints" sIdleJ f fd)
    (F_telling_words : Fun K "_telling_words" "_telling_words" sTelling f_telling_words fd_telling_words) (b_telling_words : Binds K fd_telling_words ["letters"] []) (g_telling_words : mg "_telling_words" = some (.ref f_telling_words))
    (F_words : Fun K "_words" "_words" sWords f_words fd_words) (b_words : Binds K fd_words ["letters", "length"] []) (g_words : mg "_words" = some (.ref f_words))
    (F_len : Fun K "__len__" "Joints.__len__" sLen f_len fd_len) (b_len : Binds K fd_len ["self"] []) (m_len : PySem.W.findIn K (.ref C) "__len__" = some (some (.ref f_len)) ∧ PySem.W.typeIn K (.ref f_len) = some (.type "function"))
    (F_decider : Fun K "decider" "Joints.decider" sDec f_decider fd_decider) (b_decider : Binds K fd_decider ["self", "word", "gap"] []) (m_decider : Meth K C "decider" f_decider)
    (F_is_letter : Fun K "is_letter" "is_letter" sLetter f_is_letter fd_is_letter) (b_is_letter : Binds K fd_is_letter ["char"] []) (g_is_letter : mg "is_letter" = some (.ref f_is_letter))
    (F_says : Fun K "_says" "_says" sSays f_says fd_says) (b_says : Binds K fd_says ["part", "text"] []) (g_says : mg "_says" = some (.ref f_says))
    (F_fits : Fun K "_fits" "_fits" sFits f_fits fd_fits) (b_fits : Binds K fd_fits ["row", "word", "gap"] []) (g_fits : mg "_fits" = some (.ref f_fits)) :
    FnOk P w K mg base CX0 5 f fd ["joints", "letters"] (spIdleJ C) := by
  have G_decider : FnOk P w K mg base CX0 4 f_decider fd_decider ["self", "word", "gap"] (spDec C) := ok_dec B Z T F_decider F_is_letter b_is_letter g_is_letter F_says b_says g_says F_fits b_fits g_fits
  have G_telling_words : FnOk P w K mg base CX0 2 f_telling_words fd_telling_words ["letters"] spTelling := ok_telling B Z F_telling_words F_words b_words g_words
  have G_len : FnOk P w K mg base CX0 1 f_len fd_len ["self"] (spLen C) := ok_len B T F_len
  refine F.ok scIJ (fun vs H Q E h => ?_) (fun cdv A0 outer s H vs Q E hr h => ?_)
  · obtain ⟨p, l1, l2, z, zs, xs, rfl, _⟩ := h; rfl
  · obtain ⟨p, l1, l2, z, zs, xs, rfl, hJ, hzx, hx8, hgd, hz, q⟩ := h
    have hr2 : Room 2 _ := hr.mono (by decide)
    refine ⟨_, (pss_cons (ps_set (i := 2) scIJ.nd rfl (.inr rfl) (show PE _ _ (R5.tDNewN P w) from R5.pe_dnewN))
      (pss_cons (ps_for (PassesOwn.never) rfl (pi_list (pe_call G_telling_words hr2 (by rfl) g_telling_words F_telling_words.kp b_telling_words .nil pass0 (pa_cons (pv 1) pa_nil))) (pg_name (i := 3) scIJ.nd rfl (.inl rfl))
      (pss_one (ps_for (PassesOwn.never) rfl (pi_range2 (by rfl) B.range (pa_cons pe_int (pa_cons (pe_callB call_len (by rfl) B.len PySem.boot_len (pa_cons (pv 3) pa_nil)) pa_nil))) (pg_name (i := 4) scIJ.nd rfl (.inl rfl))
       (pss_one (ps_asg pe_bl (pg_sub (pv 2) (pe_meth (pv 0) T.cl m_decider G_decider hr b_decider .nil pass0 (pa_cons (pv 3) (pa_cons (pv 4) pa_nil))) (show PSet _ (R5.rSetN P w) from R5.set_nd)))))))
      (pss_one (ps_ret (pe_lc (own := [("index", 5)]) (g := gName 5) rfl scIJ.nd (pi_range1 (by rfl) B.range (pa_cons (pe_callB (RO.call_lenOwn m_len.1 m_len.2 G_len b_len hr2) (by rfl) B.len PySem.boot_len (pa_cons (pv 0) pa_nil)) pa_nil)) (blkOk_by (N := nIJ) (sc := defScope sIdleJ) (by decide +kernel)) (fun _ _ _ _ _ => (pg_name (i := 5) scIJ.nd rfl (.inl rfl))) (fun _ _ _ _ _ => pts_one (pt_cmpR (show OpR _ _ (R5.rNin P w) from R5.op_notIn_nd) (pv 5) (pv 2) (by with_unfolding_all rfl))) (fun _ _ _ _ _ => (pv 5))))))), ?_⟩
    refine fun d nd => ?_
    have s1 : Same H (upd H d (R5.NdO P w d 0 fun _ => false)) := same_new nd
    have ed : upd H d (R5.NdO P w d 0 fun _ => false) d = some (R5.NdO P w d 0 fun _ => false) := upd_same
    generalize upd H d (R5.NdO P w d 0 fun _ => false) = H1 at s1 ed ⊢
    refine ⟨.str z, rfl, z, rfl, hz, fun H2 a s2 na ea => ?_⟩
    have hzl : (tl z).length ≤ 3 := by rw [tl_len]; exact hz
    have htl := tell_le hzl 6 (Nat.le_refl _)
    have nda : d ≠ a := ne_of_none ed na
    have hused : ∀ k, (∃ v ∈ tellN (tl z) 6, ∃ g, 1 ≤ g ∧ g < v.length ∧ dec xs (tl v) g = k) ↔ usedB xs (tl z) k = true := fun k => (used_tell hgd).symm.trans usedB_iff.symm
    have hmem : ∀ v ∈ tellN (tl z) 6, 1 ≤ v.length ∧ v.length ≤ 6 := fun v hv => (mem_tell.mp hv).1
    generalize tellN (tl z) 6 = TT at ea htl hused hmem
    have ed2 := s2 _ _ ed
    have hJ2 := hJ.same (s1.trans s2)
    have sH2 : Same H H2 := s1.trans s2
    refine ⟨a, rfl, ⟨_, SqL.of ea⟩, for_list (K := K) (a := a) (xs := TT.map V.str) (fun j σ H' => ∃ (y3 y4 : Option V) (n : Nat) (S : Option Key → Bool), σ = [some (.ref p), some (.str z), some (.ref d), y3, y4, none] ∧ H' d = some (R5.NdO P w d n S) ∧ n ≤ j * 6 ∧ Same H H' ∧ (∀ b o, b ≠ d → H2 b = some o → H' b = some o) ∧
      ∀ k, S (R5.kO k) = true ↔ ∃ v ∈ TT.take j, ∃ g, 1 ≤ g ∧ g < v.length ∧ dec xs (tl v) g = k) ⟨none, none, 0, _, rfl, ed2, Nat.zero_le _, sH2, fun b o _ e => e, fun k => ⟨fun h => (by cases h), fun ⟨v, hv, _⟩ => (by simp at hv)⟩⟩ (fun j σ H' _ ⟨_, _, _, _, _, _, _, _, kp, _⟩ => SqL.of (kp _ _ (Ne.symm nda) ea)) ?_ ?_⟩
    · rintro j v σ H3 hj ⟨y3, y4, n, S, rfl, hd, hn, s3, kp3, hS⟩
      rw [List.getElem?_map] at hj
      cases en : TT[j]? with
      | none => rw [en] at hj; cases hj
      | some wo =>
      rw [en] at hj; cases hj
      have hjl := (List.getElem?_eq_some_iff.mp en).1
      obtain ⟨hw1, hw6⟩ := hmem wo (List.mem_of_getElem? en)
      have hw100 : wo.length ≤ 100 := by omega
      have et : TT.take (j + 1) = TT.take j ++ [wo] := by rw [List.take_add_one, en]; rfl
      refine ⟨.str wo, rfl, .str wo, wo.length, rfl, ⟨Nat.le_trans hw100 (by decide), rfl⟩, 1, (wo.length : Int), rfl, ⟨by decide, by decide, by omega, by omega⟩, ?_⟩
      have en2 : ((wo.length : Int) - 1).toNat = wo.length - 1 := by omega
      rw [en2]
      refine for_range (lo := 1) (n := wo.length - 1) (fun i σ H' => ∃ (y4 : Option V) (n : Nat) (S : Option Key → Bool), σ = [some (.ref p), some (.str z), some (.ref d), some (.str wo), y4, none] ∧ H' d = some (R5.NdO P w d n S) ∧ n ≤ j * 6 + i ∧ Same H H' ∧ (∀ b o, b ≠ d → H2 b = some o → H' b = some o) ∧
        ∀ k, S (R5.kO k) = true ↔ ((∃ v ∈ TT.take j, ∃ g, 1 ≤ g ∧ g < v.length ∧ dec xs (tl v) g = k) ∨ ∃ g, 1 ≤ g ∧ g < 1 + i ∧ dec xs (tl wo) g = k)) ⟨_, n, S, rfl, hd, hn, s3, kp3, fun k => (hS k).trans ⟨.inl, fun h => h.elim id fun ⟨g, h1, h2, _⟩ => by omega⟩⟩ ?_ ?_
      · rintro i σ H4 hi ⟨y4, n, S, rfl, hd4, hn4, s4, kp4, hS4⟩
        have eg : (1 : Int) + (i : Int) = ((1 + i : Nat) : Int) := by omega
        rw [eg]
        have hJ4 : JAt C H4 p l1 l2 zs xs := hJ.same s4
        obtain ⟨dx, fs, us, hp, ff, hl1, hl2, hrow⟩ := id hJ4
        refine ⟨.ref d, rfl, .ref p, rfl, p, dx, fs, rfl, hp, ff.de, .str wo, rfl, .int ((1 + i : Nat) : Int), rfl, p, l1, l2, wo, 1 + i, zs, xs, rfl, hJ4, hgd, hw100, by omega, fun H5 s5 => ?_⟩
        refine ⟨d, n, S, dec xs (tl wo) (1 + i), rfl, vO_ov _, s5 _ _ hd4, Nat.lt_of_le_of_lt (show n ≤ 30000 by omega) (by decide), ?_⟩
        refine ⟨_, n + 1, _, rfl, upd_same, by omega, same_at (s4.trans s5) nd, fun b o hb e => by rw [upd_ne hb]; exact s5 _ _ (kp4 _ _ hb e), fun k => ?_⟩
        rw [Bool.or_eq_true, decide_eq_true_iff, kO_eq, hS4]
        constructor
        · rintro (rfl | h | ⟨g, h1, h2, h3⟩)
          · exact .inr ⟨1 + i, by omega, by omega, rfl⟩
          · exact .inl h
          · exact .inr ⟨g, h1, by omega, h3⟩
        · rintro (h | ⟨g, h1, h2, h3⟩)
          · exact .inr (.inl h)
          · by_cases hg : g < 1 + i
            · exact .inr (.inr ⟨g, h1, hg, h3⟩)
            · obtain rfl : g = 1 + i := by omega
              exact .inl h3.symm
      · rintro σ H4 ⟨y4, n, S, rfl, hd4, hn4, s4, kp4, hS4⟩
        refine ⟨_, _, n, S, rfl, hd4, by omega, s4, kp4, fun k => (hS4 k).trans ?_⟩
        rw [et]
        constructor
        · rintro (⟨v, hv, h⟩ | ⟨g, h1, h2, h3⟩)
          · exact ⟨v, List.mem_append_left _ hv, h⟩
          · exact ⟨wo, List.mem_append_right _ List.mem_cons_self, g, h1, by omega, h3⟩
        · rintro ⟨v, hv, g, h1, h2, h3⟩
          rcases List.mem_append.mp hv with h | h
          · exact .inl ⟨v, h, g, h1, h2, h3⟩
          · rw [List.mem_singleton.mp h] at h2 h3
            exact .inr ⟨g, h1, by omega, h3⟩
    · rintro σ H3 ⟨y3, y4, n, S, rfl, hd, hn, s3, kp3, hS⟩
      rw [List.length_map, List.take_length] at hS
      have hJ3 : JAt C H3 p l1 l2 zs xs := hJ.same s3
      obtain ⟨dx, fs, us, hp, ff, hl1, hl2, hrow⟩ := id hJ3
      refine ⟨.ref p, rfl, p, dx, fs, zs.length, rfl, hp, Nat.le_trans (show zs.length ≤ 1000 by omega) (by decide), ⟨p, l1, l2, zs, xs, rfl, hJ3, by omega, rfl, rfl⟩, (zs.length : Int), rfl, by omega, by omega, fun D hD => ?_⟩
      rw [Int.toNat_natCast, hzx]
      have ndD : d ≠ D := ne_of_none hd hD
      refine lc_range (lo := 0) (n := xs.length) (fun i H' => H' D = some (.lst ((idleTo xs (tl z) i).map nV)) ∧ Same H3 H') ⟨upd_same, same_new hD⟩ ?_ ?_
      · rintro i H' hi ⟨hD', sm⟩
        have e0 : (0 : Int) + (i : Int) = (i : Int) := by omega
        rw [e0]
        have eS : S (R5.kO (some i)) = usedB xs (tl z) (some i) := by
          rw [Bool.eq_iff_iff, hS, hused]
        refine ⟨rfl, .int (i : Int), rfl, .ref d, rfl, d, n, S, some i, rfl, rfl, sm _ _ hd, _, rfl, ?_⟩
        rw [eS]
        refine ite2 (fun h => ?_) (fun h => ?_)
        · have hu : usedB xs (tl z) (some i) = false := by simpa using h
          refine ⟨.int (i : Int), rfl, _, hD', ?_, ?_, same_at sm hD⟩
          · have := idle_len xs (tl z) i
            rw [List.length_map]; exact small1000 (by omega)
          · rw [upd_same]
            show _ = some (HO.lst ((idleTo xs (tl z) i ++ (if usedB xs (tl z) (some i) = true then [] else [i])).map nV))
            rw [if_neg (by rw [hu]; exact Bool.false_ne_true), List.map_append]; rfl
        · have hu : usedB xs (tl z) (some i) = true := by simpa using h
          refine ⟨?_, sm⟩
          show _ = some (HO.lst ((idleTo xs (tl z) i ++ (if usedB xs (tl z) (some i) = true then [] else [i])).map nV))
          rw [if_pos hu, List.append_nil]; exact hD'
      · rintro H' ⟨hD', sm⟩
        exact q H' D (s3.trans sm) (s3.free hD) hD'
end
end K31

set_option maxRecDepth 100000
set_option maxHeartbeats 4000000
namespace K31
open PySem PySem.Spec PyProof.Rows L2 RJ
theorem eqV_ov (a b : Option Nat) : eqV (ov a) (ov b) = decide (b = a) := by
  cases a with
  | none => cases b <;> rfl
  | some a => cases b with
    | none => rfl
    | some b =>
      show ((a : Int) == (b : Int)) = _
      by_cases h : b = a
      · subst h; simp
      · have h2 : ¬ (a : Int) = (b : Int) := by omega
        rw [decide_eq_false (fun e => h (Option.some.inj e))]
        simpa using h2
theorem inV_ov (k : Option Nat) : ∀ ks : List (Option Nat), inV (ov k) (ks.map ov) = decide (k ∈ ks)
  | [] => rfl
  | j :: ks => by
    have ih := inV_ov k ks
    unfold inV at ih ⊢
    rw [List.map_cons, List.any_cons, ih, eqV_ov]
    by_cases h : k = j
    · subst h; simp
    · rw [decide_eq_false h, Bool.false_or]
      exact decide_eq_decide.mpr (by simp [h])
theorem flat_ov (k : Option Nat) : flatV (ov k) = true := by cases k <;> rfl
theorem flat_ovs : ∀ ks : List (Option Nat), (ks.map ov).all flatV = true
  | [] => rfl
  | k :: ks => by rw [List.map_cons, List.all_cons, flat_ovs ks, flat_ov]; rfl
section
variable {P : Program} {w : World} {K : PySem.W.Frag} {mg : Str → Option Value} {base : Heap} {t1 t2 t3 t4 t5 : Tok}
/-! ### _law_sides -/
def spSides : Sp := fun vs H Q _ => ∃ (z : Str), vs = [.str z] ∧ z.length ≤ 3 ∧ ∀ H' o, Same H H' → H o = none → H' o = some (.lst ((tellN (tl z) 3).map V.str)) → Q (.ref o) H'
abbrev nSi : List Str := ["_law_letters_here", "_law_out", "_law_words", "_law_turn", "_law_longer", "_law_word_here", "_law_letter"]
theorem scSides : FnScope nSi ["_law_letters_here"] (defScope sSides) := ⟨rfl, rfl, rfl, by decide +kernel, rfl, by decide +kernel, by decide +kernel⟩
theorem ok_sides {f : Addr} {fd : FuncData} (B : Blt mg) (F : Fun K "_law_sides" "_law_sides" sSides f fd) : FnOk P w K mg base CX0 1 f fd ["_law_letters_here"] spSides := by
  refine F.ok scSides (fun vs H Q E h => ?_) (fun cdv A0 outer s H vs Q E hr h => ?_)
  · obtain ⟨z, rfl, _⟩ := h; rfl
  · obtain ⟨z, rfl, hz, q⟩ := h
    refine ⟨_, (pss_cons (ps_set (i := 1) scSides.nd rfl (.inl rfl) (pe_lst pa_nil))
      (pss_cons (ps_set (i := 2) scSides.nd rfl (.inl rfl) (pe_lst (pa_cons pe_str pa_nil)))
      (pss_cons (ps_for (PassesOwn.never) rfl (pi_range1 (by rfl) B.range (pa_cons pe_int pa_nil)) (pg_name (i := 3) scSides.nd rfl (.inl rfl))
      (pss_cons (ps_set (i := 4) scSides.nd rfl (.inl rfl) (pe_lst pa_nil))
       (pss_cons (ps_for (PassesOwn.never) rfl (pi_list (pv 2)) (pg_name (i := 5) scSides.nd rfl (.inl rfl))
       (pss_one (ps_for (PassesOwn.never) rfl (pi_str (pv 0)) (pg_name (i := 6) scSides.nd rfl (.inl rfl))
        (pss_one (ps_expr (pe_bm PySem.F.plainAttrs_list PySem.F.slot_list_append PySem.F.type_list_append mt_append (pv 4) (pa_cons (pe_op op_add_str (pv 5) (pv 6)) pa_nil)))))))
       (pss_cons (ps_set (i := 2) scSides.nd rfl (.inl rfl) (pe_callTy call_list_of (by rfl) B.list (by decide +kernel) (pa_cons (pv 4) pa_nil)))
       (pss_one (ps_set (i := 1) scSides.nd rfl (.inl rfl) (pe_op op_cat (pv 1) (pv 2))))))))
      (pss_one (ps_ret (pv 1)))))), ?_⟩
    have hzl : (tl z).length ≤ 3 := by rw [tl_len]; exact hz
    refine ⟨Nat.zero_le _, fun O0 nO0 => ?_⟩
    have s1 : Same H (upd H O0 (.lst [])) := same_new nO0
    have e1 : (upd H O0 (.lst [])) O0 = some (.lst ((tellN (tl z) 0).map V.str)) := upd_same
    generalize upd H O0 (.lst []) = H1 at s1 e1 ⊢
    refine ⟨(by show 1 ≤ sizeLine; decide), fun W0 nW0 => ?_⟩
    refine ⟨3, rfl, by decide, by decide, ?_⟩
    refine for_range (lo := 0) (n := 3) (fun k σ H' => ∃ (O W : Addr) (y3 y4 y5 y6 : Option V), σ = [some (.str z), some (.ref O), some (.ref W), y3, y4, y5, y6] ∧ H O = none ∧ H' O = some (.lst ((tellN (tl z) k).map V.str)) ∧ H' W = some (.lst ((wordsZ (tl z) k).map V.str)) ∧ Same H H')
      ⟨O0, W0, none, none, none, none, rfl, nO0, (same_new nW0) _ _ e1, upd_same, s1.trans (same_new nW0)⟩ ?_ ?_
    · rintro k σ H2 hk ⟨O, W, y3, y4, y5, y6, rfl, nO, hO, hW, s2⟩
      have hwk : (wordsZ (tl z) k).length ≤ 243 := by
        rw [words_len]
        exact Nat.le_trans (Nat.pow_le_pow_left hzl k) (Nat.pow_le_pow_right (by decide) (by omega) : 3 ^ k ≤ 3 ^ 5)
      have hw1 := words_le (n := k + 1) hzl (by omega)
      have ht1 := tell_le hzl k (by omega)
      have edef : wordsZ (tl z) (k + 1) = (wordsZ (tl z) k).flatMap (ext (tl z)) := rfl
      have edef2 : tellN (tl z) (k + 1) = tellN (tl z) k ++ wordsZ (tl z) (k + 1) := rfl
      have hwkl : ∀ wo ∈ wordsZ (tl z) k, wo.length = k := fun wo h => (mem_words.mp h).1
      generalize hV : wordsZ (tl z) (k + 1) = V1 at edef edef2 hw1
      generalize hU : wordsZ (tl z) k = U1 at hW hwk edef hwkl
      refine ⟨Nat.zero_le _, fun lo nlo => ?_⟩
      have s3 : Same H2 (upd H2 lo (.lst [])) := same_new nlo
      have e3 : (upd H2 lo (.lst [])) lo = some (.lst (((U1.take 0).flatMap (ext (tl z))).map V.str)) := upd_same
      generalize upd H2 lo (.lst []) = H3 at s3 e3 ⊢
      refine ⟨.ref W, rfl, W, rfl, ⟨_, SqL.of (s3 _ _ hW)⟩, for_list (K := K) (a := W) (xs := U1.map V.str) (fun i σ H' => ∃ (y5 y6 : Option V), σ = [some (.str z), some (.ref O), some (.ref W), some (.int (0 + (k : Int))), some (.ref lo), y5, y6] ∧ H' lo = some (.lst (((U1.take i).flatMap (ext (tl z))).map V.str)) ∧ Same H2 H') ⟨y5, y6, rfl, e3, s3⟩ (fun i σ H' _ ⟨_, _, _, _, s⟩ => SqL.of (s _ _ hW)) ?_ ?_⟩
      · rintro i v σ H4 hi ⟨y5, y6, rfl, hlo, s4⟩
        rw [List.getElem?_map] at hi
        cases en : U1[i]? with
        | none => rw [en] at hi; cases hi
        | some wo =>
        rw [en] at hi; cases hi
        have hilt := (List.getElem?_eq_some_iff.mp en).1
        have hwl := hwkl wo (List.mem_of_getElem? en)
        refine ⟨.str z, rfl, z, rfl, for_it walk_str (fun j σ H' => ∃ (y6 : Option V), σ = [some (.str z), some (.ref O), some (.ref W), some (.int (0 + (k : Int))), some (.ref lo), some (.str wo), y6] ∧ H' lo = some (.lst (((U1.take i).flatMap (ext (tl z)) ++ ((tl z).take j).map (fun c => wo ++ (⟨#[c]⟩ : Str))).map V.str)) ∧ Same H2 H') ⟨y6, rfl, by rw [List.take_zero, List.map_nil, List.append_nil]; exact hlo, s4⟩ (fun _ _ _ _ _ => trivial) ?_ ?_⟩
        · rintro j x σ H5 H5' hj ⟨y6, rfl, hlo5, s5⟩ ⟨rfl, c, hc, rfl⟩
          have hc' : (tl z)[j]? = some c := by simpa [tl] using hc
          refine ⟨.ref lo, rfl, .inl ⟨rfl, _, SqL.of hlo5⟩, .str wo, rfl, .str ⟨#[c]⟩, rfl, wo, ⟨#[c]⟩, rfl, rfl, ?_, lo, _, _, rfl, rfl, hlo5, ?_, ?_⟩
          · show wo.length + 1 ≤ sizeLine
            exact Nat.le_trans (show wo.length + 1 ≤ 10 by omega) (by decide)
          · rw [List.length_map, List.length_append, flat_len, List.length_map, List.length_take, List.length_take]
            have h1 : min i U1.length * (tl z).length ≤ 243 * 3 := Nat.mul_le_mul (by omega) hzl
            exact small1000 (by omega)
          · refine ⟨some (.str ⟨#[c]⟩), rfl, ?_, same_at s5 nlo⟩
            rw [upd_same, ext_take hc', ← List.append_assoc, List.map_append (l₁ := _ ++ _)]; rfl
        · rintro σ H5 ⟨y6, rfl, hlo5, s5⟩
          refine ⟨some (.str wo), y6, rfl, ?_, s5⟩
          rw [flat_take en]
          have e : (tl z).take z.cps.size = tl z := List.take_of_length_le (by rw [tl_len]; exact Nat.le_refl _)
          rw [e] at hlo5
          exact hlo5
      · rintro σ H4 ⟨y5, y6, rfl, hlo, s4⟩
        rw [List.length_map, List.take_length, ← edef] at hlo
        refine ⟨.ref lo, rfl, lo, _, rfl, .inl (SqL.of hlo), fun W2 nW2 => ?_⟩
        have s5 : Same H2 (upd H4 W2 (.lst (V1.map V.str))) := s4.trans (same_new nW2)
        have eW2 : (upd H4 W2 (.lst (V1.map V.str))) W2 = some (.lst (V1.map V.str)) := upd_same
        generalize upd H4 W2 (.lst (V1.map V.str)) = H5 at s5 eW2 ⊢
        refine ⟨.ref O, rfl, .ref W2, rfl, O, W2, _, _, rfl, rfl, s5 _ _ hO, eW2, Nat.le_trans (by rw [List.length_map, List.length_map]; show _ ≤ 6000; omega) (show 6000 ≤ sizeLine by decide), fun O2 nO2 => ?_⟩
        refine ⟨O2, W2, some (.int (0 + (k : Int))), some (.ref lo), y5, y6, rfl, (s2.trans s5).free nO2, ?_, ?_, s2.trans (s5.trans (same_new nO2))⟩
        · rw [upd_same, edef2, List.map_append]
        · exact (same_new nO2) _ _ eW2
    · rintro σ H2 ⟨O, W, y3, y4, y5, y6, rfl, nO, hO, hW, s2⟩
      exact ⟨.ref O, rfl, q H2 O s2 nO hO⟩
/-! ### _law_idle -/
def spIdle : Sp := fun vs H Q _ => ∃ (a : Addr) (us : List V) (xs : List Rw) (z : Str), vs = [.ref a, .str z] ∧ H a = some (.lst us) ∧ RowsL H us xs ∧ (∀ x ∈ xs, Good x) ∧ xs.length ≤ 8 ∧ Lets z ∧
  ∀ H' o, Same H H' → H o = none → H' o = some (.lst ((idleL xs (tl z)).map nV)) → Q (.ref o) H'
abbrev nId : List Str := ["_law_rows", "_law_letters_here", "_law_used", "_law_sides_here", "_law_left", "_law_right", "_law_index", "_law_k"]
theorem scIdle : FnScope nId ["_law_rows", "_law_letters_here"] (defScope sIdle) := ⟨rfl, rfl, rfl, by decide +kernel, rfl, by decide +kernel, by decide +kernel⟩
theorem ok_idle {f f_sides f_decider f_says f_fits : Addr} {fd fd_sides fd_decider fd_says fd_fits : FuncData} (B : Blt mg) (F : Fun K "_law_idle" "_law_idle" sIdle f fd)
    (F_sides : Fun K "_law_sides" "_law_sides" sSides f_sides fd_sides) (b_sides : Binds K fd_sides ["_law_letters_here"] []) (g_sides : mg "_law_sides" = some (.ref f_sides))
    (F_decider : Fun K "_law_decider" "_law_decider" sLDec f_decider fd_decider) (b_decider : Binds K fd_decider ["_law_rows", "_law_word_here", "_law_gap"] []) (g_decider : mg "_law_decider" = some (.ref f_decider))
    (F_says : Fun K "_law_says" "_law_says" sLSays f_says fd_says) (b_says : Binds K fd_says ["_law_part", "_law_text"] []) (g_says : mg "_law_says" = some (.ref f_says))
    (F_fits : Fun K "_law_fits" "_law_fits" sLFits f_fits fd_fits) (b_fits : Binds K fd_fits ["_law_row_here", "_law_word_here", "_law_gap"] []) (g_fits : mg "_law_fits" = some (.ref f_fits)) :
    FnOk P w K mg base CX0 4 f fd ["_law_rows", "_law_letters_here"] spIdle := by
  have G_sides : FnOk P w K mg base CX0 1 f_sides fd_sides ["_law_letters_here"] spSides := ok_sides B F_sides
  have G_decider : FnOk P w K mg base CX0 3 f_decider fd_decider ["_law_rows", "_law_word_here", "_law_gap"] spLDec := ok_ldec B F_decider F_says b_says g_says F_fits b_fits g_fits
  refine F.ok scIdle (fun vs H Q E h => ?_) (fun cdv A0 outer s H vs Q E hr h => ?_)
  · obtain ⟨a, us, xs, z, rfl, _⟩ := h; rfl
  · obtain ⟨a, us, xs, z, rfl, ha, hra, hgd, hx8, hz, q⟩ := h
    have hr1 : Room 1 _ := hr.mono (by decide)
    refine ⟨_, (pss_cons (ps_set (i := 2) scIdle.nd rfl (.inr rfl) (pe_lst pa_nil))
      (pss_cons (ps_set (i := 3) scIdle.nd rfl (.inl rfl) (pe_call G_sides hr1 (by rfl) g_sides F_sides.kp b_sides .nil pass0 (pa_cons (pv 1) pa_nil)))
      (pss_cons (ps_for (PassesOwn.never) rfl (pi_list (pv 3)) (pg_name (i := 4) scIdle.nd rfl (.inl rfl))
      (pss_one (ps_for (PassesOwn.never) rfl (pi_list (pv 3)) (pg_name (i := 5) scIdle.nd rfl (.inl rfl))
       (pss_cons (ps_set (i := 6) scIdle.nd rfl (.inl rfl) (pe_call G_decider hr (by rfl) g_decider F_decider.kp b_decider .nil pass0 (pa_cons (pv 0) (pa_cons (pe_op op_add_str (pv 4) (pv 5)) (pa_cons (pe_callB call_len (by rfl) B.len PySem.boot_len (pa_cons (pv 4) pa_nil)) pa_nil)))))
        (pss_one (ps_if (pt_cmpR op_notIn_seq (pv 6) (pv 2) (by with_unfolding_all rfl))
        (pss_one (ps_expr (pe_bm PySem.F.plainAttrs_list PySem.F.slot_list_append PySem.F.type_list_append mt_append (pv 2) (pa_cons (pv 6) pa_nil))))
        pss_nil))))))
      (pss_one (ps_ret (pe_lc (own := [("_law_k", 7)]) (g := gName 7) rfl scIdle.nd (pi_range1 (by rfl) B.range (pa_cons (pe_callB call_len (by rfl) B.len PySem.boot_len (pa_cons (pv 0) pa_nil)) pa_nil)) (blkOk_by (N := nId) (sc := defScope sIdle) (by decide +kernel)) (fun _ _ _ _ _ => (pg_name (i := 7) scIdle.nd rfl (.inl rfl))) (fun _ _ _ _ _ => pts_one (pt_cmpR (show OpR _ _ (rIn K true) from op_notIn_seq) (pv 7) (pv 2) (by with_unfolding_all rfl))) (fun _ _ _ _ _ => (pv 7)))))))), ?_⟩
    have hzl : (tl z).length ≤ 3 := by rw [tl_len]; exact hz.hi
    have hul := hra.1
    refine ⟨Nat.zero_le _, fun ou nou => ?_⟩
    have s1 : Same H (upd H ou (.lst [])) := same_new nou
    have e1 : (upd H ou (.lst [])) ou = some (.lst (([] : List (Option Nat)).map ov)) := upd_same
    generalize upd H ou (.lst []) = H1 at s1 e1 ⊢
    refine ⟨.str z, rfl, z, rfl, hz.hi, fun H2 sd s2 nsd esd => ?_⟩
    have nsu : sd ≠ ou := Ne.symm (ne_of_none e1 nsd)
    have e2 := s2 _ _ e1
    have hused : ∀ k, (∃ l ∈ tellN (tl z) 3, ∃ r ∈ tellN (tl z) 3, dec xs (tl (l ++ r)) l.length = k) ↔ usedB xs (tl z) k = true := fun k => (used_sides hgd).symm.trans usedB_iff.symm
    have hmem : ∀ v ∈ tellN (tl z) 3, (1 ≤ v.length ∧ v.length ≤ 3) ∧ ∀ c ∈ tl v, isL c = true := fun v hv => ⟨(mem_tell.mp hv).1, fun c hc => hz.L c ((mem_tell.mp hv).2 c hc)⟩
    have htl : (tellN (tl z) 3).length ≤ 39 := by
      show (((([] : List Str) ++ wordsZ (tl z) 1) ++ wordsZ (tl z) 2) ++ wordsZ (tl z) 3).length ≤ 39
      rw [List.nil_append, List.length_append, List.length_append, words_len, words_len, words_len]
      have h1 := Nat.pow_le_pow_left hzl 1
      have h2 := Nat.pow_le_pow_left hzl 2
      have h3 := Nat.pow_le_pow_left hzl 3
      omega
    generalize tellN (tl z) 3 = TT at esd hused hmem htl
    refine ⟨.ref sd, rfl, sd, rfl, ⟨_, SqL.of esd⟩, for_list (K := K) (a := sd) (xs := TT.map V.str) (fun j σ H' => ∃ (y4 y5 y6 : Option V) (ks : List (Option Nat)), σ = [some (.ref a), some (.str z), some (.ref ou), some (.ref sd), y4, y5, y6, none] ∧ H' ou = some (.lst (ks.map ov)) ∧ H' sd = some (.lst (TT.map V.str)) ∧ ks.length ≤ j * 40 ∧ Same H H' ∧
      ∀ k, k ∈ ks ↔ ∃ l ∈ TT.take j, ∃ r ∈ TT, dec xs (tl (l ++ r)) l.length = k) ⟨none, none, none, [], rfl, e2, esd, Nat.zero_le _, s1.trans s2, fun k => ⟨fun h => absurd h List.not_mem_nil, fun ⟨l, hl, _⟩ => (by simp at hl)⟩⟩ (fun j σ H' _ ⟨_, _, _, _, _, _, e, _⟩ => SqL.of e) ?_ ?_⟩
    · rintro j v σ H3 hj ⟨y4, y5, y6, ks, rfl, hou, hsd, hkl, s3, hks⟩
      rw [List.getElem?_map] at hj
      cases en : TT[j]? with
      | none => rw [en] at hj; cases hj
      | some wo =>
      rw [en] at hj; cases hj
      have hjl := (List.getElem?_eq_some_iff.mp en).1
      obtain ⟨⟨hw1, hw3⟩, hwL⟩ := hmem wo (List.mem_of_getElem? en)
      have et : TT.take (j + 1) = TT.take j ++ [wo] := by rw [List.take_add_one, en]; rfl
      refine ⟨.ref sd, rfl, sd, rfl, ⟨_, SqL.of hsd⟩, for_list (K := K) (a := sd) (xs := TT.map V.str) (fun i σ H' => ∃ (y5 y6 : Option V) (ks : List (Option Nat)), σ = [some (.ref a), some (.str z), some (.ref ou), some (.ref sd), some (.str wo), y5, y6, none] ∧ H' ou = some (.lst (ks.map ov)) ∧ H' sd = some (.lst (TT.map V.str)) ∧ ks.length ≤ j * 40 + i ∧ Same H H' ∧
        ∀ k, k ∈ ks ↔ ((∃ l ∈ TT.take j, ∃ r ∈ TT, dec xs (tl (l ++ r)) l.length = k) ∨ ∃ r ∈ TT.take i, dec xs (tl (wo ++ r)) wo.length = k)) ⟨y5, y6, ks, rfl, hou, hsd, hkl, s3, fun k => (hks k).trans ⟨.inl, fun h => h.elim id fun ⟨r, hr, _⟩ => (by simp at hr)⟩⟩ (fun i σ H' _ ⟨_, _, _, _, _, e, _⟩ => SqL.of e) ?_ ?_⟩
      · rintro i v σ H4 hi ⟨y5, y6, ks, rfl, hou4, hsd4, hkl4, s4, hks4⟩
        rw [List.getElem?_map] at hi
        cases en2 : TT[i]? with
        | none => rw [en2] at hi; cases hi
        | some ro =>
        rw [en2] at hi; cases hi
        have hil := (List.getElem?_eq_some_iff.mp en2).1
        obtain ⟨⟨hr1', hr3⟩, hrL⟩ := hmem ro (List.mem_of_getElem? en2)
        have et2 : TT.take (i + 1) = TT.take i ++ [ro] := by rw [List.take_add_one, en2]; rfl
        have hwr : (wo ++ ro).length = wo.length + ro.length := len_add _ _
        refine ⟨.ref a, rfl, .str wo, rfl, .str ro, rfl, wo, ro, rfl, rfl, Nat.le_trans (show wo.length + ro.length ≤ 10 by omega) (by decide), .str wo, rfl, .str wo, wo.length, rfl, ⟨Nat.le_trans (show wo.length ≤ 10 by omega) (by decide), rfl⟩, a, us, wo ++ ro, wo.length, xs, rfl, s4 _ _ ha, hra.same s4, by omega, hgd, by omega, fun c hc => ?_, ?_⟩
        · rw [tl_add] at hc
          rcases List.mem_append.mp hc with h | h
          · exact hwL c h
          · exact hrL c h
        refine ⟨ov (dec xs (tl (wo ++ ro)) wo.length), rfl, .ref ou, rfl, ou, _, rfl, .inl (SqL.of hou4), flat_ov _, flat_ovs _, _, rfl, ?_⟩
        rw [if_pos rfl, inV_ov]
        have step : ∀ k, ((∃ l ∈ TT.take j, ∃ r ∈ TT, dec xs (tl (l ++ r)) l.length = k) ∨ ∃ r ∈ TT.take (i + 1), dec xs (tl (wo ++ r)) wo.length = k) ↔ (k ∈ ks ∨ k = dec xs (tl (wo ++ ro)) wo.length) := fun k => by
          rw [hks4, et2]
          constructor
          · rintro (h | ⟨r, hr, h⟩)
            · exact .inl (.inl h)
            · rcases List.mem_append.mp hr with h1 | h1
              · exact .inl (.inr ⟨r, h1, h⟩)
              · rw [List.mem_singleton.mp h1] at h; exact .inr h.symm
          · rintro ((h | ⟨r, hr, h⟩) | h)
            · exact .inl h
            · exact .inr ⟨r, List.mem_append_left _ hr, h⟩
            · exact .inr ⟨ro, List.mem_append_right _ List.mem_cons_self, h.symm⟩
        refine ite2 (fun h => ?_) (fun h => ?_)
        · refine ⟨.ref ou, rfl, .inl ⟨rfl, _, SqL.of hou4⟩, ov (dec xs (tl (wo ++ ro)) wo.length), rfl, ou, _, _, rfl, rfl, hou4, Nat.lt_of_le_of_lt (show _ ≤ 3000 by rw [List.length_map]; omega) (by decide), ?_⟩
          refine ⟨_, _, ks ++ [dec xs (tl (wo ++ ro)) wo.length], rfl, by rw [upd_same, List.map_append]; rfl, by rw [upd_ne nsu]; exact hsd4, by rw [List.length_append]; show ks.length + 1 ≤ _; omega, same_at s4 nou, fun k => ?_⟩
          rw [step, List.mem_append, List.mem_singleton]
        · have hin : dec xs (tl (wo ++ ro)) wo.length ∈ ks := by simpa using h
          refine ⟨_, _, ks, rfl, hou4, hsd4, by omega, s4, fun k => ?_⟩
          rw [step]
          exact ⟨.inl, fun h => h.elim id fun e => by rw [e]; exact hin⟩
      · rintro σ H4 ⟨y5, y6, ks, rfl, hou4, hsd4, hkl4, s4, hks4⟩
        rw [List.length_map] at hkl4
        rw [List.length_map, List.take_length] at hks4
        refine ⟨_, _, _, ks, rfl, hou4, hsd4, by omega, s4, fun k => (hks4 k).trans ?_⟩
        rw [et]
        constructor
        · rintro (⟨l, hl, h⟩ | ⟨r, hr, h⟩)
          · exact ⟨l, List.mem_append_left _ hl, h⟩
          · exact ⟨wo, List.mem_append_right _ List.mem_cons_self, r, hr, h⟩
        · rintro ⟨l, hl, r, hr, h⟩
          rcases List.mem_append.mp hl with h1 | h1
          · exact .inl ⟨l, h1, r, hr, h⟩
          · rw [List.mem_singleton.mp h1] at h; exact .inr ⟨r, hr, h⟩
    · rintro σ H3 ⟨y4, y5, y6, ks, rfl, hou, hsd, hkl, s3, hks⟩
      rw [List.length_map, List.take_length] at hks
      refine ⟨.ref a, rfl, .ref a, us.length, rfl, .inl ⟨_, SqL.of (s3 _ _ ha), rfl⟩, (us.length : Int), rfl, by omega, by omega, fun D hD => ?_⟩
      rw [Int.toNat_natCast, hul]
      refine lc_range (lo := 0) (n := xs.length) (fun i H' => H' D = some (.lst ((idleTo xs (tl z) i).map nV)) ∧ Same H3 H') ⟨upd_same, same_new hD⟩ ?_ ?_
      · rintro i H' hi ⟨hD', sm⟩
        have e0 : (0 : Int) + (i : Int) = (i : Int) := by omega
        rw [e0]
        have eS : decide (some i ∈ ks) = usedB xs (tl z) (some i) := by
          rw [Bool.eq_iff_iff, decide_eq_true_iff, hks, hused]
        refine ⟨rfl, .int (i : Int), rfl, .ref ou, rfl, ou, _, rfl, .inl (SqL.of (sm _ _ hou)), rfl, flat_ovs _, _, rfl, ?_⟩
        have eI : inV (.int (i : Int)) (ks.map ov) = decide (some i ∈ ks) := inV_ov (some i) ks
        rw [if_pos rfl, eI, eS]
        refine ite2 (fun h => ?_) (fun h => ?_)
        · have hu : usedB xs (tl z) (some i) = false := by simpa using h
          refine ⟨.int (i : Int), rfl, _, hD', ?_, ?_, same_at sm hD⟩
          · have := idle_len xs (tl z) i
            rw [List.length_map]; exact small1000 (by omega)
          · rw [upd_same]
            show _ = some (HO.lst ((idleTo xs (tl z) i ++ (if usedB xs (tl z) (some i) = true then [] else [i])).map nV))
            rw [if_neg (by rw [hu]; exact Bool.false_ne_true), List.map_append]; rfl
        · have hu : usedB xs (tl z) (some i) = true := by simpa using h
          refine ⟨?_, sm⟩
          show _ = some (HO.lst ((idleTo xs (tl z) i ++ (if usedB xs (tl z) (some i) = true then [] else [i])).map nV))
          rw [if_pos hu, List.append_nil]; exact hD'
      · rintro H' ⟨hD', sm⟩
        exact q H' D (s3.trans sm) (s3.free hD) hD'
/-! ### _law_same -/
theorem ty_txt {H : Hp} {z : Str} : TyX K H (.str z) (.type "str") := .base (.str z)
theorem ty_lst {H : Hp} {a : Addr} {xs : List V} (h : H a = some (.lst xs)) : TyX K H (.ref a) (.type "list") := .base (.lst h)
def Leaf (v : V) : Prop := (∃ z, v = .str z) ∨ ∃ i, v = .int i
def spLeaf : Sp := fun vs H Q _ => ∃ v, vs = [v, v] ∧ Leaf v ∧ Q (.bl true) H
theorem scSame : FnScope ["_law_one", "_law_two", "_law_k"] ["_law_one", "_law_two"] (defScope sSame) := ⟨rfl, rfl, rfl, by decide +kernel, rfl, by decide +kernel, by decide +kernel⟩
theorem ok_leaf {f : Addr} {fd : FuncData} (B : Blt mg) (F : Fun K "_law_same" "_law_same" sSame f fd) : FnOk P w K mg base CX0 1 f fd ["_law_one", "_law_two"] spLeaf := by
  refine F.ok scSame (fun vs H Q E h => ?_) (fun cdv A outer s H vs Q E hr h => ?_)
  · obtain ⟨v, rfl, _⟩ := h; rfl
  · obtain ⟨v, rfl, hv, q⟩ := h
    refine ⟨_, (pss_cons (ps_if (pt_cmpR op_isN (pv 1) pe_non (nomark _)) (pss_one ps_never) pss_nil)
      (pss_cons (ps_if (pt_val (pe_callB call_isi (by rfl) B.isi (by decide +kernel) (pa_cons (pv 1) (pa_cons (pe_bltn (v := .ty "bool") (by rfl) B.bool (by decide +kernel) rfl) pa_nil)))) (pss_one ps_never) pss_nil)
      (pss_cons (ps_if (pt_val (pe_callB call_isi (by rfl) B.isi (by decide +kernel) (pa_cons (pv 1) (pa_cons (pe_bltn (v := .ty "int") (by rfl) B.int (by decide +kernel) rfl) pa_nil))))
      (pss_one (ps_ret (pe_and (pe_callB call_isi (by rfl) B.isi (by decide +kernel) (pa_cons (pv 0) (pa_cons (pe_bltn (v := .ty "int") (by rfl) B.int (by decide +kernel) rfl) pa_nil))) (pe_and (pe_not (pe_callB call_isi (by rfl) B.isi (by decide +kernel) (pa_cons (pv 0) (pa_cons (pe_bltn (v := .ty "bool") (by rfl) B.bool (by decide +kernel) rfl) pa_nil)))) (pe_one (pe_cmpR op_eq (pv 0) (pv 1) (nomark _)))))))
      pss_nil)
      (pss_cons (ps_if (pt_val (pe_callB call_isi (by rfl) B.isi (by decide +kernel) (pa_cons (pv 1) (pa_cons (pe_bltn (v := .ty "str") (by rfl) B.str (by decide +kernel) rfl) pa_nil))))
      (pss_one (ps_ret (pe_and (pe_callB call_isi (by rfl) B.isi (by decide +kernel) (pa_cons (pv 0) (pa_cons (pe_bltn (v := .ty "str") (by rfl) B.str (by decide +kernel) rfl) pa_nil))) (pe_one (pe_cmpR op_eq (pv 0) (pv 1) (nomark _))))))
      pss_nil)
      (pss_cons ps_never (pss_cons ps_never (pss_cons ps_never (pss_one ps_never)))))))), ?_⟩
    rcases hv with ⟨z, rfl⟩ | ⟨i, rfl⟩
    · refine ⟨.str z, rfl, rfl, _, rfl, iteF ?_⟩
      refine ⟨.str z, rfl, .str z, .ty "bool", .type "str", .type "bool", false, rfl, .ty "bool", ty_txt, kit_ty (by decide +kernel), _, rfl, iteF ?_⟩
      refine ⟨.str z, rfl, .str z, .ty "int", .type "str", .type "int", false, rfl, .ty "int", ty_txt, kit_ty (by decide +kernel), _, rfl, iteF ?_⟩
      refine ⟨.str z, rfl, .str z, .ty "str", .type "str", .type "str", true, rfl, .ty "str", ty_txt, kit_ty (by decide +kernel), _, rfl, iteT ?_⟩
      refine ⟨.str z, rfl, .str z, .ty "str", .type "str", .type "str", true, rfl, .ty "str", ty_txt, kit_ty (by decide +kernel), _, rfl, iteT ?_⟩
      refine ⟨.str z, rfl, .str z, rfl, rfl, ?_⟩
      rw [decide_eq_true rfl]; exact q
    · refine ⟨.int i, rfl, rfl, _, rfl, iteF ?_⟩
      refine ⟨.int i, rfl, .int i, .ty "bool", .type "int", .type "bool", false, rfl, .ty "bool", .base (.int i), kit_ty (by decide +kernel), _, rfl, iteF ?_⟩
      refine ⟨.int i, rfl, .int i, .ty "int", .type "int", .type "int", true, rfl, .ty "int", .base (.int i), kit_ty (by decide +kernel), _, rfl, iteT ?_⟩
      refine ⟨.int i, rfl, .int i, .ty "int", .type "int", .type "int", true, rfl, .ty "int", .base (.int i), kit_ty (by decide +kernel), _, rfl, iteT ?_⟩
      refine ⟨.int i, rfl, .int i, .ty "bool", .type "int", .type "bool", false, rfl, .ty "bool", .base (.int i), kit_ty (by decide +kernel), _, rfl, _, rfl, iteT ?_⟩
      refine ⟨.int i, rfl, .int i, rfl, rfl, ?_⟩
      rw [decide_eq_true rfl]; exact q
def spSame : Sp := fun vs H Q _ => ∃ (a b : Addr) (xs : List V), vs = [.ref a, .ref b] ∧ H a = some (.lst xs) ∧ H b = some (.lst xs) ∧ (∀ v ∈ xs, Leaf v) ∧ xs.length ≤ 1000 ∧ Q (.bl true) H
theorem ok_same {f_same : Addr} {fd_same : FuncData} (B : Blt mg) (F_same : Fun K "_law_same" "_law_same" sSame f_same fd_same) (b_same : Binds K fd_same ["_law_one", "_law_two"] []) (g_same : mg "_law_same" = some (.ref f_same)) : FnOk P w K mg base CX0 2 f_same fd_same ["_law_one", "_law_two"] spSame := by
  have G_same : FnOk P w K mg base CX0 1 f_same fd_same ["_law_one", "_law_two"] spLeaf := ok_leaf B F_same
  refine F_same.ok scSame (fun vs H Q E h => ?_) (fun cdv A outer s H vs Q E hr h => ?_)
  · obtain ⟨a, b, xs, rfl, _⟩ := h; rfl
  · obtain ⟨a, b, xs, rfl, ha, hb, hlf, hx, q⟩ := h
    refine ⟨_, (pss_cons (ps_if (pt_cmpR op_isN (pv 1) pe_non (nomark _)) (pss_one ps_never) pss_nil)
      (pss_cons (ps_if (pt_val (pe_callB call_isi (by rfl) B.isi (by decide +kernel) (pa_cons (pv 1) (pa_cons (pe_bltn (v := .ty "bool") (by rfl) B.bool (by decide +kernel) rfl) pa_nil)))) (pss_one ps_never) pss_nil)
      (pss_cons (ps_if (pt_val (pe_callB call_isi (by rfl) B.isi (by decide +kernel) (pa_cons (pv 1) (pa_cons (pe_bltn (v := .ty "int") (by rfl) B.int (by decide +kernel) rfl) pa_nil)))) (pss_one ps_never) pss_nil)
      (pss_cons (ps_if (pt_val (pe_callB call_isi (by rfl) B.isi (by decide +kernel) (pa_cons (pv 1) (pa_cons (pe_bltn (v := .ty "str") (by rfl) B.str (by decide +kernel) rfl) pa_nil)))) (pss_one ps_never) pss_nil)
      (pss_cons (ps_if (PW.pt (pw_and (pt_val (pe_callB call_isi (by rfl) B.isi (by decide +kernel) (pa_cons (pv 1) (pa_cons (pe_bltn (v := .ty "tuple") (by rfl) B.tuple (by decide +kernel) rfl) pa_nil)))) (pw_and1 (pt_not (pt_val (pe_callB call_isi (by rfl) B.isi (by decide +kernel) (pa_cons (pv 0) (pa_cons (pe_bltn (v := .ty "tuple") (by rfl) B.tuple (by decide +kernel) rfl) pa_nil)))))))) (pss_one ps_never) pss_nil)
      (pss_cons (ps_if (PW.pt (pw_and (pt_val (pe_callB call_isi (by rfl) B.isi (by decide +kernel) (pa_cons (pv 1) (pa_cons (pe_bltn (v := .ty "list") (by rfl) B.list (by decide +kernel) rfl) pa_nil)))) (pw_and1 (pt_not (pt_val (pe_callB call_isi (by rfl) B.isi (by decide +kernel) (pa_cons (pv 0) (pa_cons (pe_bltn (v := .ty "list") (by rfl) B.list (by decide +kernel) rfl) pa_nil)))))))) (pss_one ps_never) pss_nil)
      (pss_cons (ps_if (PW.pt (pw_or (pt_val (pe_callB call_isi (by rfl) B.isi (by decide +kernel) (pa_cons (pv 1) (pa_cons (pe_bltn (v := .ty "tuple") (by rfl) B.tuple (by decide +kernel) rfl) pa_nil)))) (pw_or1 (pt_val (pe_callB call_isi (by rfl) B.isi (by decide +kernel) (pa_cons (pv 1) (pa_cons (pe_bltn (v := .ty "list") (by rfl) B.list (by decide +kernel) rfl) pa_nil)))))))
       (pss_cons (ps_if (pt_cmpR op_ne (pe_callB call_len (by rfl) B.len PySem.boot_len (pa_cons (pv 0) pa_nil)) (pe_callB call_len (by rfl) B.len PySem.boot_len (pa_cons (pv 1) pa_nil)) (nomark _)) (pss_one (ps_ret pe_bl)) pss_nil)
       (pss_cons (ps_for (PassesOwn.never) rfl (pi_range1 (by rfl) B.range (pa_cons (pe_callB call_len (by rfl) B.len PySem.boot_len (pa_cons (pv 1) pa_nil)) pa_nil)) (pg_name (i := 2) scSame.nd rfl (.inl rfl))
        (pss_one (ps_if (pt_not (pt_val (pe_call G_same hr (by rfl) g_same F_same.kp b_same .nil pass0 (pa_cons (pe_ix ix_list (pv 0) (pv 2) (fun _ _ => rfl)) (pa_cons (pe_ix ix_list (pv 1) (pv 2) (fun _ _ => rfl)) pa_nil)))))
         (pss_one (ps_ret pe_bl))
         pss_nil)))
       (pss_one (ps_ret pe_bl)))) pss_nil)
      (pss_one ps_never)))))))), ?_⟩
    refine ⟨.ref b, rfl, rfl, _, rfl, iteF ?_⟩
    refine ⟨.ref b, rfl, .ref b, .ty "bool", .type "list", .type "bool", false, rfl, .ty "bool", ty_lst hb, kit_ty (by decide +kernel), _, rfl, iteF ?_⟩
    refine ⟨.ref b, rfl, .ref b, .ty "int", .type "list", .type "int", false, rfl, .ty "int", ty_lst hb, kit_ty (by decide +kernel), _, rfl, iteF ?_⟩
    refine ⟨.ref b, rfl, .ref b, .ty "str", .type "list", .type "str", false, rfl, .ty "str", ty_lst hb, kit_ty (by decide +kernel), _, rfl, iteF ?_⟩
    refine ⟨.ref b, rfl, .ref b, .ty "tuple", .type "list", .type "tuple", false, rfl, .ty "tuple", ty_lst hb, kit_ty (by decide +kernel), _, rfl, iteF ?_⟩
    refine ⟨.ref b, rfl, .ref b, .ty "list", .type "list", .type "list", true, rfl, .ty "list", ty_lst hb, kit_ty (by decide +kernel), _, rfl, iteT ?_⟩
    refine ⟨.ref a, rfl, .ref a, .ty "list", .type "list", .type "list", true, rfl, .ty "list", ty_lst ha, kit_ty (by decide +kernel), _, rfl, iteF ?_⟩
    refine ⟨.ref b, rfl, .ref b, .ty "tuple", .type "list", .type "tuple", false, rfl, .ty "tuple", ty_lst hb, kit_ty (by decide +kernel), _, rfl, iteF ?_⟩
    refine ⟨.ref b, rfl, .ref b, .ty "list", .type "list", .type "list", true, rfl, .ty "list", ty_lst hb, kit_ty (by decide +kernel), _, rfl, iteT ?_⟩
    refine ⟨.ref a, rfl, .ref a, xs.length, rfl, .inl ⟨_, SqL.of ha, rfl⟩, .ref b, rfl, .ref b, xs.length, rfl, .inl ⟨_, SqL.of hb, rfl⟩, rfl, _, rfl, ?_⟩
    rw [decide_eq_true rfl]
    refine iteF ⟨.ref b, rfl, .ref b, xs.length, rfl, .inl ⟨_, SqL.of hb, rfl⟩, (xs.length : Int), rfl, by omega, by omega, ?_⟩
    rw [Int.toNat_natCast]
    refine for_range (lo := 0) (n := xs.length) (fun n σ H' => ∃ y, σ = [some (.ref a), some (.ref b), y] ∧ H' = H) ⟨none, rfl, rfl⟩ ?_ ?_
    · rintro k σ H' hk ⟨y, rfl, rfl⟩
      have e0 : (0 : Int) + (k : Int) = (k : Int) := by omega
      rw [e0]
      have g1 : xs[k]? = some (xs[k]'hk) := by simp
      refine ⟨.ref a, rfl, .int (k : Int), rfl, a, xs, (k : Int), _, rfl, rfl, SqL.of ha, atI_nat g1, .ref b, rfl, .int (k : Int), rfl, b, xs, (k : Int), _, rfl, rfl, SqL.of hb, atI_nat g1, ?_⟩
      exact ⟨_, rfl, hlf _ (List.getElem_mem hk), true, rfl, iteF ⟨_, rfl, rfl⟩⟩
    · rintro σ H' ⟨y, rfl, rfl⟩
      exact q
end
end K31

set_option maxRecDepth 100000
set_option maxHeartbeats 16000000
namespace K31
open PySem PySem.Spec PyProof.Rows L2 RJ
theorem inV_nat (k : Nat) : ∀ gs : List Nat, inV (.int (k : Int)) (gs.map nV) = decide (k ∈ gs)
  | [] => rfl
  | g :: gs => by
    have ih := inV_nat k gs
    unfold inV at ih ⊢
    rw [List.map_cons, List.any_cons, ih]
    show (((g : Int) == (k : Int)) || decide (k ∈ gs)) = decide (k ∈ g :: gs)
    by_cases h : k = g
    · subst h; simp
    · have h2 : ¬ (g : Int) = (k : Int) := by omega
      have e1 : ((g : Int) == (k : Int)) = false := by simpa using h2
      rw [e1, Bool.false_or]
      exact decide_eq_decide.mpr (by simp [h])
theorem flat_nat : ∀ gs : List Nat, (gs.map nV).all flatV = true
  | [] => rfl
  | g :: gs => by rw [List.map_cons, List.all_cons, flat_nat gs]; rfl
theorem inV_ovn (k : Option Nat) (gs : List Nat) (h : ∀ n, k = some n → n ∉ gs) : inV (ov k) (gs.map nV) = false := by
  cases k with
  | none =>
    unfold inV
    rw [List.any_eq_false]
    intro v hv
    obtain ⟨g, _, rfl⟩ := List.mem_map.mp hv
    show ¬ eqV (.int (g : Int)) .non = true
    exact fun e => by cases e
  | some n =>
    have e : inV (ov (some n)) (gs.map nV) = decide (n ∈ gs) := inV_nat n gs
    rw [e]; exact decide_eq_false (h n rfl)
theorem leafS (zs : List Str) : ∀ v ∈ zs.map V.str, Leaf v := fun v h => by
  obtain ⟨z, _, rfl⟩ := List.mem_map.mp h; exact .inl ⟨z, rfl⟩
theorem leafN (gs : List Nat) : ∀ v ∈ gs.map nV, Leaf v := fun v h => by
  obtain ⟨z, _, rfl⟩ := List.mem_map.mp h; exact .inr ⟨_, rfl⟩
theorem lets_of {z : Str} (h : Alpha z) : Lets z := ⟨h.L, h.hi⟩
theorem lets_cut {z : Str} (h : Lets z) (n : Nat) : Lets (cutS z none (some (n : Int))) :=
  ⟨fun c hc => h.L c (by rw [cut_to] at hc; exact List.mem_of_mem_take hc), by rw [← tl_len, cut_to, List.length_take, tl_len]; have := h.hi; omega⟩
/-- what the law holds -/
structure Wd (C : Addr) (H : Hp) (o L p l1 l2 D : Addr) (us : List V) (zs : List Str) (xs : List Rw) (gs : List Nat) : Prop where
  ho : H o = some (.lst us)
  r1 : RowsL H us xs
  hL : H L = some (.lst (zs.map V.str))
  j : JAt C H p l1 l2 zs xs
  hD : H D = some (.lst (gs.map nV))
theorem Wd.same {C : Addr} {H H' : Hp} {o L p l1 l2 D : Addr} {us : List V} {zs : List Str} {xs : List Rw} {gs : List Nat} (h : Wd C H o L p l1 l2 D us zs xs gs) (s : Same H H') : Wd C H' o L p l1 l2 D us zs xs gs :=
  ⟨s _ _ h.ho, h.r1.same s, s _ _ h.hL, h.j.same s, s _ _ h.hD⟩
section
variable {P : Program} {w : World} {K : PySem.W.Frag} {mg : Str → Option Value} {base : Heap} {t1 t2 t3 t4 t5 : Tok}
def spLaw (K : PySem.W.Frag) : Sp := fun vs H Q _ => ∃ (a : Addr) (ns : List Int), vs = [.ref a] ∧ SqL K H a (ns.map V.int) ∧ ns.length ≤ 63 ∧ ∀ H', Q (.bl true) H'
abbrev nLaw : List Str := ["_law_script", "_law_letters_here", "_law_rows", "_law_again", "_law_lines", "_law_joints", "_law_due", "_law_told", "_law_busy", "_law_k", "_law_word_here", "_law_gap", "_law_row_here"]
theorem scLaw : FnScope nLaw ["_law_script"] (defScope sLaw) := ⟨rfl, rfl, rfl, by decide +kernel, rfl, by decide +kernel, by decide +kernel⟩
theorem ok_law {C f f_init f_len f_iter f_decider f_is_joint f_gaps f_is_letter f_is_part f_read_joint f_says f_fits f_words f_telling_words f_idle_joints f_cell f_row f_same f_letters f_joint f_written f_list f_lsays f_lfits f_ldec f_word f_sides f_idle : Addr} {fd fd_init fd_len fd_iter fd_decider fd_is_joint fd_gaps fd_is_letter fd_is_part fd_read_joint fd_says fd_fits fd_words fd_telling_words fd_idle_joints fd_cell fd_row fd_same fd_letters fd_joint fd_written fd_list fd_lsays fd_lfits fd_ldec fd_word fd_sides fd_idle : FuncData}
    (B : Blt mg) (Z : Cst mg t1 t2 t3 t4 t5) (T : Txt K mg C) (M : Mk K C f_init) (F : Fun K "law" "law" sLaw f fd)
    (F_init : Fun K "__init__" "Joints.__init__" sInit f_init fd_init) (b_init : Binds K fd_init ["self", "lines"] [])
    (F_len : Fun K "__len__" "Joints.__len__" sLen f_len fd_len) (b_len : Binds K fd_len ["self"] []) (m_len : PySem.W.findIn K (.ref C) "__len__" = some (some (.ref f_len)) ∧ PySem.W.typeIn K (.ref f_len) = some (.type "function"))
    (F_iter : Fun K "__iter__" "Joints.__iter__" sIter f_iter fd_iter) (b_iter : Binds K fd_iter ["self"] []) (m_iter : PySem.W.findIn K (.ref C) "__iter__" = some (some (.ref f_iter)) ∧ PySem.W.isFn K (.ref f_iter) = true)
    (F_decider : Fun K "decider" "Joints.decider" sDec f_decider fd_decider) (b_decider : Binds K fd_decider ["self", "word", "gap"] []) (m_decider : Meth K C "decider" f_decider)
    (F_is_joint : Fun K "is_joint" "Joints.is_joint" sIsJ f_is_joint fd_is_joint) (b_is_joint : Binds K fd_is_joint ["self", "word", "gap"] []) (m_is_joint : Meth K C "is_joint" f_is_joint)
    (F_gaps : Fun K "gaps" "Joints.gaps" sGaps f_gaps fd_gaps) (b_gaps : Binds K fd_gaps ["self", "word"] []) (m_gaps : Meth K C "gaps" f_gaps)
    (F_is_letter : Fun K "is_letter" "is_letter" sLetter f_is_letter fd_is_letter) (b_is_letter : Binds K fd_is_letter ["char"] []) (g_is_letter : mg "is_letter" = some (.ref f_is_letter))
    (F_is_part : Fun K "_is_part" "_is_part" sPart f_is_part fd_is_part) (b_is_part : Binds K fd_is_part ["text", "end"] []) (g_is_part : mg "_is_part" = some (.ref f_is_part))
    (F_read_joint : Fun K "_read_joint" "_read_joint" sRead f_read_joint fd_read_joint) (b_read_joint : Binds K fd_read_joint ["line"] []) (g_read_joint : mg "_read_joint" = some (.ref f_read_joint))
    (F_says : Fun K "_says" "_says" sSays f_says fd_says) (b_says : Binds K fd_says ["part", "text"] []) (g_says : mg "_says" = some (.ref f_says))
    (F_fits : Fun K "_fits" "_fits" sFits f_fits fd_fits) (b_fits : Binds K fd_fits ["row", "word", "gap"] []) (g_fits : mg "_fits" = some (.ref f_fits))
    (F_words : Fun K "_words" "_words" sWords f_words fd_words) (b_words : Binds K fd_words ["letters", "length"] []) (g_words : mg "_words" = some (.ref f_words))
    (F_telling_words : Fun K "_telling_words" "_telling_words" sTelling f_telling_words fd_telling_words) (b_telling_words : Binds K fd_telling_words ["letters"] []) (g_telling_words : mg "_telling_words" = some (.ref f_telling_words))
    (F_idle_joints : Fun K "idle_joints" "idle_joints" sIdleJ f_idle_joints fd_idle_joints) (b_idle_joints : Binds K fd_idle_joints ["joints", "letters"] []) (g_idle_joints : mg "idle_joints" = some (.ref f_idle_joints))
    (F_cell : Fun K "_law_cell" "_law_cell" sCell f_cell fd_cell) (b_cell : Binds K fd_cell ["_law_script", "_law_k"] []) (g_cell : mg "_law_cell" = some (.ref f_cell))
    (F_row : Fun K "_law_row" "_law_row" sRow f_row fd_row) (b_row : Binds K fd_row ["_law_cell_here", "_law_limits"] []) (g_row : mg "_law_row" = some (.ref f_row))
    (F_same : Fun K "_law_same" "_law_same" sSame f_same fd_same) (b_same : Binds K fd_same ["_law_one", "_law_two"] []) (g_same : mg "_law_same" = some (.ref f_same))
    (F_letters : Fun K "_law_letters" "_law_letters" sLetters f_letters fd_letters) (b_letters : Binds K fd_letters ["_law_cell_here"] []) (g_letters : mg "_law_letters" = some (.ref f_letters))
    (F_joint : Fun K "_law_joint" "_law_joint" sJoint f_joint fd_joint) (b_joint : Binds K fd_joint ["_law_cell_here", "_law_letters_here", "_law_share"] []) (g_joint : mg "_law_joint" = some (.ref f_joint))
    (F_written : Fun K "_law_written" "_law_written" sWritten f_written fd_written) (b_written : Binds K fd_written ["_law_row_here"] []) (g_written : mg "_law_written" = some (.ref f_written))
    (F_list : Fun K "_law_list" "_law_list" sList f_list fd_list) (b_list : Binds K fd_list ["_law_script", "_law_at", "_law_letters_here"] []) (g_list : mg "_law_list" = some (.ref f_list))
    (F_lsays : Fun K "_law_says" "_law_says" sLSays f_lsays fd_lsays) (b_lsays : Binds K fd_lsays ["_law_part", "_law_text"] []) (g_lsays : mg "_law_says" = some (.ref f_lsays))
    (F_lfits : Fun K "_law_fits" "_law_fits" sLFits f_lfits fd_lfits) (b_lfits : Binds K fd_lfits ["_law_row_here", "_law_word_here", "_law_gap"] []) (g_lfits : mg "_law_fits" = some (.ref f_lfits))
    (F_ldec : Fun K "_law_decider" "_law_decider" sLDec f_ldec fd_ldec) (b_ldec : Binds K fd_ldec ["_law_rows", "_law_word_here", "_law_gap"] []) (g_ldec : mg "_law_decider" = some (.ref f_ldec))
    (F_word : Fun K "_law_word" "_law_word" sWord f_word fd_word) (b_word : Binds K fd_word ["_law_cell_here", "_law_letters_here"] []) (g_word : mg "_law_word" = some (.ref f_word))
    (F_sides : Fun K "_law_sides" "_law_sides" sSides f_sides fd_sides) (b_sides : Binds K fd_sides ["_law_letters_here"] []) (g_sides : mg "_law_sides" = some (.ref f_sides))
    (F_idle : Fun K "_law_idle" "_law_idle" sIdle f_idle fd_idle) (b_idle : Binds K fd_idle ["_law_rows", "_law_letters_here"] []) (g_idle : mg "_law_idle" = some (.ref f_idle)) :
    FnOk P w K mg base CX0 7 f fd ["_law_script"] (spLaw K) := by
  have G_init : FnOk P w K mg base CX0 4 f_init fd_init ["self", "lines"] (spInit C) := ok_init B Z T F_init F_is_letter b_is_letter g_is_letter F_is_part b_is_part g_is_part F_read_joint b_read_joint g_read_joint
  have G_len : FnOk P w K mg base CX0 1 f_len fd_len ["self"] (spLen C) := ok_len B T F_len
  have G_iter : RO.FnN P w K mg base CX0 1 f_iter fd_iter ["self"] (RO.spIt C "_lines") := ok_iter B T F_iter
  have G_decider : FnOk P w K mg base CX0 4 f_decider fd_decider ["self", "word", "gap"] (spDec C) := ok_dec B Z T F_decider F_is_letter b_is_letter g_is_letter F_says b_says g_says F_fits b_fits g_fits
  have G_gaps : FnOk P w K mg base CX0 6 f_gaps fd_gaps ["self", "word"] (spGaps C) := ok_gaps B Z T F_gaps F_is_joint b_is_joint m_is_joint F_decider b_decider m_decider F_is_letter b_is_letter g_is_letter F_says b_says g_says F_fits b_fits g_fits
  have G_idle_joints : FnOk P w K mg base CX0 5 f_idle_joints fd_idle_joints ["joints", "letters"] (spIdleJ C) := ok_idlej B Z T F_idle_joints F_telling_words b_telling_words g_telling_words F_words b_words g_words F_len b_len m_len F_decider b_decider m_decider F_is_letter b_is_letter g_is_letter F_says b_says g_says F_fits b_fits g_fits
  have G_cell : FnOk P w K mg base CX0 1 f_cell fd_cell ["_law_script", "_law_k"] (spCell K) := ok_cell B F_cell
  have G_row : FnOk P w K mg base CX0 1 f_row fd_row ["_law_cell_here", "_law_limits"] (spRow K) := ok_row B F_row
  have G_letters : FnOk P w K mg base CX0 2 f_letters fd_letters ["_law_cell_here"] spLetters := ok_letters B F_letters F_row b_row g_row
  have G_list : FnOk P w K mg base CX0 3 f_list fd_list ["_law_script", "_law_at", "_law_letters_here"] (spList K) := ok_list B F_list F_cell b_cell g_cell F_row b_row g_row F_joint b_joint g_joint
  have G_written : FnOk P w K mg base CX0 1 f_written fd_written ["_law_row_here"] spWritten := ok_written F_written
  have G_word : FnOk P w K mg base CX0 2 f_word fd_word ["_law_cell_here", "_law_letters_here"] spWord := ok_word B F_word F_row b_row g_row
  have G_idle : FnOk P w K mg base CX0 4 f_idle fd_idle ["_law_rows", "_law_letters_here"] spIdle := ok_idle B F_idle F_sides b_sides g_sides F_ldec b_ldec g_ldec F_lsays b_lsays g_lsays F_lfits b_lfits g_lfits
  have G_same : FnOk P w K mg base CX0 2 f_same fd_same ["_law_one", "_law_two"] spSame := ok_same B F_same b_same g_same
  refine F.ok scLaw (fun vs H Q E h => ?_) (fun cdv A0 outer s H vs Q E hr h => ?_)
  · obtain ⟨a, ns, rfl, _⟩ := h; rfl
  · obtain ⟨a, ns, rfl, hS, hlen, q⟩ := h
    have hr1 : Room 1 _ := hr.mono (by decide)
    have hr2 : Room 2 _ := hr.mono (by decide)
    have hr3 : Room 3 _ := hr.mono (by decide)
    have hr4 : Room 4 _ := hr.mono (by decide)
    have hr5 : Room 5 _ := hr.mono (by decide)
    have hr6 : Room 6 _ := hr
    refine ⟨_, (pss_cons (ps_set (i := 1) scLaw.nd rfl (.inl rfl) (pe_call G_letters hr2 (by rfl) g_letters F_letters.kp b_letters .nil pass0 (pa_cons (pe_call G_cell hr1 (by rfl) g_cell F_cell.kp b_cell .nil pass0 (pa_cons (pv 0) (pa_cons pe_int pa_nil))) pa_nil)))
      (pss_cons (ps_set (i := 2) scLaw.nd rfl (.inl rfl) (pe_call G_list hr3 (by rfl) g_list F_list.kp b_list .nil pass0 (pa_cons (pv 0) (pa_cons pe_int (pa_cons (pv 1) pa_nil)))))
      (pss_cons (ps_set (i := 3) scLaw.nd rfl (.inl rfl) (pe_call G_row hr1 (by rfl) g_row F_row.kp b_row .nil pass0 (pa_cons (pe_call G_cell hr1 (by rfl) g_cell F_cell.kp b_cell .nil pass0 (pa_cons (pv 0) (pa_cons pe_int pa_nil))) (pa_cons (pe_lst (pa_cons pe_int (pa_cons pe_int pa_nil))) pa_nil))))
      (Evl.pss_cut (ps_if (PW.pt (pw_and (pt_cmpR op_eq (pe_ix ix_list (pv 3) pe_int (fun _ _ => rfl)) pe_int (nomark _)) (pw_and1 (pt_chain op_lt op_lt pe_int (pe_callB call_len (by rfl) B.len PySem.boot_len (pa_cons (pv 2) pa_nil)) pe_int))))
      (pss_one (ps_expr (pe_bm PySem.F.plainAttrs_list PySem.F.slot_list_append PySem.F.type_list_append mt_append (pv 2) (pa_cons (pe_ix ix_list (pv 2) (pe_op op_modN (pe_callTy call_int1 (by rfl) B.int (by decide +kernel) (pa_cons (pe_ix ix_list (pv 3) pe_int (fun _ _ => rfl)) pa_nil)) (pe_callB call_len (by rfl) B.len PySem.boot_len (pa_cons (pv 2) pa_nil))) (fun _ _ => rfl)) pa_nil))))
      pss_nil)
      (pss_cons (ps_set (i := 4) scLaw.nd rfl (.inr rfl) (pe_lc (own := [("_law_row_here", 12)]) (g := gName 12) (tt := tYes) rfl scLaw.nd (pi_list (pv 2)) (blkOk_by (N := nLaw) (sc := defScope sLaw) (by decide +kernel)) (fun _ _ _ _ _ => (pg_name (i := 12) scLaw.nd rfl (.inl rfl))) (fun _ _ _ _ _ => pts_nil) (fun _ _ _ _ _ => (pe_call G_written hr1 (by rfl) g_written F_written.kp b_written .nil pass0 (pa_cons (pv 12) pa_nil)))))
      (pss_cons (ps_set (i := 5) scLaw.nd rfl (.inl rfl) (pe_make M G_init hr5 (by rfl) T.mgC b_init .nil pass0 (pa_cons (pe_callTy call_list_of (by rfl) B.list (by decide +kernel) (pa_cons (pv 4) pa_nil)) pa_nil)))
      (pss_cons (ps_set (i := 6) scLaw.nd rfl (.inr rfl) (pe_call G_idle hr4 (by rfl) g_idle F_idle.kp b_idle .nil pass0 (pa_cons (pv 2) (pa_cons (pv 1) pa_nil))))
      (pss_cons (ps_set (i := 7) scLaw.nd rfl (.inl rfl) (pe_call G_idle_joints hr5 (by rfl) g_idle_joints F_idle_joints.kp b_idle_joints .nil pass0 (pa_cons (pv 5) (pa_cons (pv 1) pa_nil))))
      (pss_cons (ps_if (pt_not (pt_val (pe_call G_same hr2 (by rfl) g_same F_same.kp b_same .nil pass0 (pa_cons (pv 7) (pa_cons (pv 6) pa_nil)))))
      (pss_one (ps_ret pe_bl))
      pss_nil)
      (pss_cons (ps_expr (pe_bm PySem.F.plainAttrs_list PySem.F.slot_list_append PySem.F.type_list_append mt_append (pv 7) (pa_cons pe_int pa_nil)))
      (pss_cons (ps_expr (pe_bm PySem.F.plainAttrs_list PySem.F.slot_list_insert PySem.F.type_list_insert mt_insert (pv 7) (pa_cons pe_int (pa_cons pe_int pa_nil))))
      (pss_cons (ps_if (pt_not (pt_val (pe_call G_same hr2 (by rfl) g_same F_same.kp b_same .nil pass0 (pa_cons (pe_call G_idle_joints hr5 (by rfl) g_idle_joints F_idle_joints.kp b_idle_joints .nil pass0 (pa_cons (pv 5) (pa_cons (pe_slice sl_str (pv 1) po_none (po_some pe_int)) pa_nil))) (pa_cons (pe_call G_idle hr4 (by rfl) g_idle F_idle.kp b_idle .nil pass0 (pa_cons (pv 2) (pa_cons (pe_slice sl_str (pv 1) po_none (po_some pe_int)) pa_nil))) pa_nil)))))
      (pss_one (ps_ret pe_bl))
      pss_nil)
      (pss_cons (ps_if (pt_not (pt_val (pe_call G_same hr2 (by rfl) g_same F_same.kp b_same .nil pass0 (pa_cons (pe_call G_idle_joints hr5 (by rfl) g_idle_joints F_idle_joints.kp b_idle_joints .nil pass0 (pa_cons (pv 5) (pa_cons (pv 1) pa_nil))) (pa_cons (pv 6) pa_nil)))))
      (pss_one (ps_ret pe_bl))
      pss_nil)
      (pss_cons (ps_set (i := 8) scLaw.nd rfl (.inl rfl) (pe_make M G_init hr5 (by rfl) T.mgC b_init .nil pass0 (pa_cons (pe_lc (own := [("_law_k", 9)]) (g := gName 9) rfl scLaw.nd (pi_range1 (by rfl) B.range (pa_cons (pe_callB call_len (by rfl) B.len PySem.boot_len (pa_cons (pv 4) pa_nil)) pa_nil)) (blkOk_by (N := nLaw) (sc := defScope sLaw) (by decide +kernel)) (fun _ _ _ _ _ => (pg_name (i := 9) scLaw.nd rfl (.inl rfl))) (fun _ _ _ _ _ => pts_one (pt_cmpR (show OpR _ _ (rIn K true) from op_notIn_seq) (pv 9) (pv 6) (by with_unfolding_all rfl))) (fun _ _ _ _ _ => (pe_ix (show IxR _ (rIxL K) from ix_list) (pv 4) (pv 9) (fun _ _ => rfl)))) pa_nil)))
      (pss_cons (ps_for (PassesOwn.never) rfl (pi_range1 (by rfl) B.range (pa_cons pe_int pa_nil)) (pg_name (i := 9) scLaw.nd rfl (.inl rfl))
      (pss_cons (ps_set (i := 10) scLaw.nd rfl (.inl rfl) (pe_call G_word hr2 (by rfl) g_word F_word.kp b_word .nil pass0 (pa_cons (pe_op op_add (pe_call G_cell hr1 (by rfl) g_cell F_cell.kp b_cell .nil pass0 (pa_cons (pv 0) (pa_cons (pe_op op_add pe_int (pv 9)) pa_nil))) (pv 9)) (pa_cons (pv 1) pa_nil))))
       (pss_cons (ps_if (pt_not (pt_val (pe_call G_same hr2 (by rfl) g_same F_same.kp b_same .nil pass0 (pa_cons (pe_meth (pv 8) T.cl m_gaps G_gaps hr6 b_gaps .nil pass0 (pa_cons (pv 10) pa_nil)) (pa_cons (pe_callTy call_list_of (by rfl) B.list (by decide +kernel) (pa_cons (pe_meth (pv 5) T.cl m_gaps G_gaps hr6 b_gaps .nil pass0 (pa_cons (pv 10) pa_nil)) pa_nil)) pa_nil)))))
       (pss_one (ps_ret pe_bl))
       pss_nil)
       (pss_one (ps_for (PassesOwn.never) rfl (pi_range2 (by rfl) B.range (pa_cons pe_int (pa_cons (pe_callB call_len (by rfl) B.len PySem.boot_len (pa_cons (pv 10) pa_nil)) pa_nil))) (pg_name (i := 11) scLaw.nd rfl (.inl rfl))
       (pss_one (ps_if (pt_cmpR op_in_seq (pe_meth (pv 5) T.cl m_decider G_decider hr4 b_decider .nil pass0 (pa_cons (pv 10) (pa_cons (pv 11) pa_nil))) (pv 6) (by with_unfolding_all rfl))
        (pss_one (ps_ret pe_bl))
        pss_nil)))))))
      (pss_one (ps_ret (pe_call G_same hr2 (by rfl) g_same F_same.kp b_same .nil pass0 (pa_cons (pe_callTy (RO.call_listOwnL ⟨m_iter.1, m_iter.2, G_iter, b_iter⟩ ⟨m_len.1, m_len.2, G_len, b_len⟩ rfl hr4) (by rfl) B.list (by decide +kernel) (pa_cons (pv 5) pa_nil)) (pa_cons (pv 4) pa_nil)))))))))))))))))))), ?_⟩
    have line : ∀ n : Nat, n ≤ 300 → n ≤ sizeLine := fun n h => Nat.le_trans h (by decide)
    refine ⟨.ref a, rfl, a, ns, 0, rfl, hS, hlen, by decide, fun c0 => ⟨c0, rfl, fun H1 z s1 hz => ?_⟩⟩
    refine ⟨.ref a, rfl, .str z, rfl, a, ns, 1, z, rfl, s1.seq hS, hlen, by decide, hz, fun H2 o us0 xs0 s2 no ho0 hrw0 hx80 hgd0 => ?_⟩
    have hul0 := hrw0.1
    have sA : Same H H2 := s1.trans s2
    refine ⟨.ref a, rfl, a, ns, 9, rfl, sA.seq hS, hlen, by decide, fun c1 => ⟨(by show 2 ≤ sizeLine; decide), fun l nl => ?_⟩⟩
    refine ⟨c1, l, [3, 8], rfl, SqL.of (by rw [upd_same]; rfl), by decide, by decide, fun H3 R rs s3 nR eR hrow => ?_⟩
    have s23 : Same H2 H3 := (same_new nl).trans s3
    have sB : Same H H3 := sA.trans s23
    obtain ⟨g0, a0, g00, g01⟩ := hrow.2 0 3 rfl
    obtain ⟨g1, a1, g10, g11⟩ := hrow.2 1 8 rfl
    have ho3 := s23 _ _ ho0
    have hrw3 := hrw0.same s23
    clear ho0 hrw0
    refine ⟨fun σ H' => ∃ (us : List V) (xs : List Rw), σ = [some (.ref a), some (.str z), some (.ref o), some (.ref R), none, none, none, none, none, none, none, none, none] ∧ Same H1 H' ∧ H' o = some (.lst us) ∧ RowsL H' us xs ∧ xs.length ≤ 8 ∧ ∀ x ∈ xs, Good x, ?_, ?_⟩
    · have keepIt : ∃ (us : List V) (xs : List Rw), ([some (.ref a), some (.str z), some (.ref o), some (.ref R), none, none, none, none, none, none, none, none, none] : L2.St) = [some (.ref a), some (.str z), some (.ref o), some (.ref R), none, none, none, none, none, none, none, none, none] ∧ Same H1 H3 ∧ H3 o = some (.lst us) ∧ RowsL H3 us xs ∧ xs.length ≤ 8 ∧ ∀ x ∈ xs, Good x := ⟨us0, xs0, rfl, s2.trans s23, ho3, hrw3, hx80, hgd0⟩
      refine ⟨.ref R, rfl, R, _, 0, .int g0, rfl, rfl, SqL.of eR, atI_nat (j := 0) (at1 a0), rfl, _, rfl, ite2 (fun _ => ?_) (fun _ => keepIt)⟩
      refine ⟨.ref o, rfl, .ref o, us0.length, rfl, .inl ⟨_, SqL.of ho3, rfl⟩, 0, _, rfl, rfl, _, rfl, ite2 (fun h0 => ?_) (fun _ => ⟨_, rfl, iteF keepIt⟩)⟩
      refine ⟨_, 8, rfl, rfl, _, rfl, ite2 (fun h8 => ?_) (fun _ => keepIt)⟩
      have h0' : (0 : Int) < (us0.length : Int) := of_decide_eq_true h0
      have h8' : (us0.length : Int) < 8 := of_decide_eq_true h8
      obtain ⟨n, en, hn⟩ : ∃ n : Nat, g1.fmod (us0.length : Int) = (n : Int) ∧ n < us0.length := by
        have z0 : 0 ≤ g1.fmod (us0.length : Int) := Int.fmod_nonneg_of_pos _ (by omega)
        have z1 : g1.fmod (us0.length : Int) < (us0.length : Int) := Int.fmod_lt_of_pos _ (by omega)
        exact ⟨(g1.fmod (us0.length : Int)).toNat, by omega, by omega⟩
      have hv : us0[n]? = some (us0[n]'hn) := List.getElem?_eq_getElem hn
      obtain ⟨x, hx, t, ev, ht⟩ := hrw3.get hv
      rw [ev] at hv
      refine ⟨.ref o, rfl, .inl ⟨rfl, _, SqL.of ho3⟩, .ref o, rfl, .ref R, rfl, R, _, 1, .int g1, rfl, rfl, SqL.of eR, atI_nat (j := 1) (at1 a1), .inl ⟨g1, rfl, .ref o, rfl, .ref o, us0.length, rfl, .inl ⟨_, SqL.of ho3, rfl⟩, g1, (us0.length : Int), rfl, rfl, (show (us0.length : Int) ≠ 0 by omega), o, us0, (n : Int), .ref t, rfl, congrArg V.int en, SqL.of ho3, atI_nat hv, ?_⟩⟩
      refine ⟨o, us0, .ref t, rfl, rfl, ho3, small1000 (by omega), ?_⟩
      have st : ∀ b ys, H3 b = some (.tup ys) → upd H3 o (.lst (us0 ++ [.ref t])) b = some (.tup ys) := fun b ys e => by
        rw [upd_ne (ne_of e ho3 (by intro z; cases z))]; exact e
      refine ⟨us0 ++ [.ref t], xs0 ++ [x], rfl, same_at (s2.trans s23) no, upd_same, (hrw3.mono st).snoc ⟨t, rfl, st _ _ ht⟩, by rw [List.length_append]; show xs0.length + 1 ≤ 8; omega, fun y hy => ?_⟩
      rcases List.mem_append.mp hy with h | h
      · exact hgd0 y h
      · rw [List.mem_singleton.mp h]; exact hgd0 x (List.mem_of_getElem? hx)
    clear hrw3 ho3
    rintro σ H4 ⟨us, xs, rfl, s14, ho4, hrw4, hx8, hgd⟩
    have hul := hrw4.1
    have sC : Same H H4 := s1.trans s14
    -- the lines
    refine ⟨.ref o, rfl, o, rfl, ⟨_, SqL.of ho4⟩, fun L nL => ?_⟩
    refine lc_list (K := K) (a := o) (xs := us) (fun i H' => ∃ zs : List Str, H' L = some (.lst (zs.map V.str)) ∧ zs.length = i ∧ (∀ (j : Nat) y x, zs[j]? = some y → xs[j]? = some x → tl y = wrt (tl x.1) (tl x.2.1) x.2.2) ∧ Same H4 H')
      ⟨[], upd_same, rfl, fun j y x h => by simp at h, same_new nL⟩ (fun i H' _ ⟨_, _, _, _, s⟩ => SqL.of (s _ _ ho4)) ?_ ?_
    · rintro i v H' hi ⟨zs, hh, hzl, hall, sm⟩
      obtain ⟨x, hx, t, rfl, ht⟩ := hrw4.get hi
      have hilt := (List.getElem?_eq_some_iff.mp hi).1
      refine ⟨rfl, .ref t, rfl, t, x, rfl, sm _ _ ht, hgd x (List.mem_of_getElem? hx), fun y hy => ⟨_, hh, small1000 (by rw [List.length_map]; omega), zs ++ [y], by rw [upd_same, map_snocS], by rw [List.length_append, hzl]; rfl, fun j y' x' h1 h2 => ?_, same_at sm nL⟩⟩
      by_cases hj : j < zs.length
      · rw [List.getElem?_append_left hj] at h1
        exact hall j y' x' h1 h2
      · have hj2 := (List.getElem?_eq_some_iff.mp h1).1
        rw [List.length_append, List.length_singleton] at hj2
        obtain rfl : j = i := by omega
        rw [List.getElem?_append_right (by omega), hzl, Nat.sub_self] at h1
        cases h1
        rw [hx] at h2; cases h2
        exact hy
    rintro H5 ⟨zs, hL, hzl, hall, s5⟩
    have ho5 := s5 _ _ ho4
    have hrw5 := hrw4.same s5
    clear ho4 hrw4
    -- the joints
    refine ⟨.ref L, rfl, L, _, rfl, .inl (SqL.of hL), fun hd nhd => ?_⟩
    have sa1 : Same H5 (upd H5 hd (.lst (zs.map V.str))) := same_new nhd
    have hh1 : upd H5 hd (.lst (zs.map V.str)) hd = some (.lst (zs.map V.str)) := upd_same
    generalize upd H5 hd (.lst (zs.map V.str)) = Ha1 at sa1 hh1 ⊢
    refine fun p dx1 np1 ndx1 ne1 => ?_
    have sI1 : Same Ha1 (upd (upd Ha1 dx1 (.own p)) p (.ins C dx1 [])) := fun b ob e => by
      rw [upd_ne (ne_of_none e np1), upd_ne (ne_of_none e ndx1)]; exact e
    refine ⟨p, dx1, hd, zs, xs, rfl, upd_same, sI1 _ _ hh1, by omega, by omega, fun i y x h1 h2 => ⟨hall i y x h1 h2, hgd x (List.mem_of_getElem? h2)⟩, fun H6 l1 l2 kp1 nl11 nl21 j1 => ⟨rfl, ?_⟩⟩
    have s56 : Same H5 H6 := sa1.trans fun b ob e => kp1 b ob (ne_of_none e np1) (sI1 _ _ e)
    have ho6 := s56 _ _ ho5
    have hrw6 := hrw5.same s56
    have lz := lets_of hz
    have sD : Same H H6 := sC.trans (s5.trans s56)
    have il := idle_len xs (tl z) xs.length
    -- due
    refine ⟨.ref o, rfl, .str z, rfl, o, us, xs, z, rfl, ho6, hrw6, hgd, hx8, lz, fun H7 D s7 nD eD => ?_⟩
    have wd : Wd C H7 o L p l1 l2 D us zs xs (idleL xs (tl z)) := ⟨s7 _ _ ho6, hrw6.same s7, s7 _ _ (s56 _ _ hL), j1.same s7, eD⟩
    have sE : Same H H7 := sD.trans s7
    clear ho6 hrw6 ho5 hrw5 hL j1 eD
    -- told
    refine ⟨.ref p, rfl, .str z, rfl, p, l1, l2, z, zs, xs, rfl, wd.j, by omega, hx8, hgd, lz.hi, fun H8 e s8 ne ee => ?_⟩
    have wd8 := wd.same s8
    refine ⟨.ref e, rfl, .ref D, rfl, e, D, _, rfl, ee, wd8.hD, leafN _, by rw [List.length_map]; show (idleTo xs (tl z) xs.length).length ≤ 1000; omega, true, rfl, iteF ?_⟩
    refine ⟨.ref e, rfl, .inl ⟨rfl, _, SqL.of ee⟩, e, _, .int 0, rfl, rfl, ee, small1000 (by rw [List.length_map]; show (idleTo xs (tl z) xs.length).length ≤ 1000; omega), ?_⟩
    have s9 : Same H7 (upd H8 e (.lst ((idleL xs (tl z)).map nV ++ [.int 0]))) := same_at s8 ne
    have e9 : upd H8 e (.lst ((idleL xs (tl z)).map nV ++ [.int 0])) e = some (.lst ((idleL xs (tl z)).map nV ++ [.int 0])) := upd_same
    generalize upd H8 e (.lst ((idleL xs (tl z)).map nV ++ [.int 0])) = H9 at s9 e9 ⊢
    refine ⟨.ref e, rfl, .inl ⟨rfl, _, SqL.of e9⟩, e, _, 0, .int 7, rfl, rfl, e9, small1000 (by rw [List.length_append, List.length_map]; show (idleTo xs (tl z) xs.length).length + 1 ≤ 1000; omega), by decide, by decide, ?_⟩
    have s10 : Same H7 (upd H9 e (.lst (List.take (0 : Int).toNat ((idleL xs (tl z)).map nV ++ [.int 0]) ++ [.int 7] ++ List.drop (0 : Int).toNat ((idleL xs (tl z)).map nV ++ [.int 0])))) := same_at s9 ne
    generalize upd H9 e (.lst (List.take (0 : Int).toNat ((idleL xs (tl z)).map nV ++ [.int 0]) ++ [.int 7] ++ List.drop (0 : Int).toNat ((idleL xs (tl z)).map nV ++ [.int 0]))) = H10 at s10 ⊢
    have wd10 := wd.same s10
    -- with one letter
    have lz1 : Lets (cutS z none (some 1)) := lets_cut lz 1
    have il1 := idle_len xs (tl (cutS z none (some 1))) xs.length
    refine ⟨.ref p, rfl, .str z, rfl, _, rfl, z, rfl, line _ (by have := lz.hi; omega), p, l1, l2, _, zs, xs, rfl, wd10.j, by omega, hx8, hgd, lz1.hi, fun H11 e1 s11 ne1' ee1 => ?_⟩
    have wd11 := wd10.same s11
    refine ⟨.ref o, rfl, .str z, rfl, _, rfl, z, rfl, line _ (by have := lz.hi; omega), o, us, xs, _, rfl, wd11.ho, wd11.r1, hgd, hx8, lz1, fun H12 e2 s12 ne2 ee2 => ?_⟩
    have wd12 := wd11.same s12
    refine ⟨e1, e2, _, rfl, s12 _ _ ee1, ee2, leafN _, by rw [List.length_map]; show (idleTo xs (tl (cutS z none (some 1))) xs.length).length ≤ 1000; omega, true, rfl, iteF ?_⟩
    -- once more
    refine ⟨.ref p, rfl, .str z, rfl, p, l1, l2, z, zs, xs, rfl, wd12.j, by omega, hx8, hgd, lz.hi, fun H13 e3 s13 ne3 ee3 => ?_⟩
    have wd13 := wd12.same s13
    refine ⟨.ref D, rfl, e3, D, _, rfl, ee3, wd13.hD, leafN _, by rw [List.length_map]; show (idleTo xs (tl z) xs.length).length ≤ 1000; omega, true, rfl, iteF ?_⟩
    -- the busy ones
    refine ⟨.ref L, rfl, .ref L, zs.length, rfl, .inl ⟨_, SqL.of wd13.hL, by rw [List.length_map]⟩, (zs.length : Int), rfl, by omega, by omega, fun W nW => ?_⟩
    rw [Int.toNat_natCast]
    refine lc_range (lo := 0) (n := zs.length) (fun i H' => ∃ ys : List Str, H' W = some (.lst (ys.map V.str)) ∧ ys.length = (keep (fun k => usedB xs (tl z) (some k)) (xs.take i) 0).length ∧ (∀ (j : Nat) y x, ys[j]? = some y → (keep (fun k => usedB xs (tl z) (some k)) (xs.take i) 0)[j]? = some x → tl y = wrt (tl x.1) (tl x.2.1) x.2.2) ∧ Same H13 H')
      ⟨[], upd_same, rfl, fun j y x h => by simp at h, same_new nW⟩ ?_ ?_
    · rintro i H' hi ⟨ys, hW, hyl, hya, sm⟩
      have e0 : (0 : Int) + (i : Int) = (i : Int) := by omega
      rw [e0]
      have hzi : zs[i]? = some (zs[i]'hi) := List.getElem?_eq_getElem hi
      have hxl : i < xs.length := by omega
      have hxi : xs[i]? = some (xs[i]'hxl) := List.getElem?_eq_getElem hxl
      have et : xs.take (i + 1) = xs.take i ++ [xs[i]'hxl] := by rw [List.take_add_one, hxi]; rfl
      have hkl := keep_len (fun k => usedB xs (tl z) (some k)) (xs.take i) 0
      have htl : (xs.take i).length = i := by rw [List.length_take]; omega
      have ek : keep (fun k => usedB xs (tl z) (some k)) (xs.take (i + 1)) 0 = keep (fun k => usedB xs (tl z) (some k)) (xs.take i) 0 ++ (if usedB xs (tl z) (some i) = true then [xs[i]'hxl] else []) := by
        rw [et, keep_snoc, htl, Nat.zero_add]
      have eS : (!decide (i ∈ idleL xs (tl z))) = usedB xs (tl z) (some i) := by
        cases hu : usedB xs (tl z) (some i) with
        | true => rw [decide_eq_false (show ¬ i ∈ idleL xs (tl z) from fun hm => by rw [(mem_idle.mp hm).2] at hu; cases hu)]; rfl
        | false => rw [decide_eq_true (show i ∈ idleL xs (tl z) from mem_idle.mpr ⟨hxl, hu⟩)]; rfl
      refine ⟨rfl, .int (i : Int), rfl, .ref D, rfl, D, _, rfl, .inl (SqL.of (sm _ _ wd13.hD)), rfl, flat_nat _, _, rfl, ?_⟩
      rw [if_pos rfl, inV_nat, eS, ek]
      refine ite2 (fun hu => ?_) (fun hu => ?_)
      · rw [if_pos hu]
        refine ⟨.ref L, rfl, .int (i : Int), rfl, L, _, (i : Int), .str (zs[i]'hi), rfl, rfl, SqL.of (sm _ _ wd13.hL), atI_nat (by rw [List.getElem?_map, hzi]; rfl), _, hW, small1000 (by rw [List.length_map]; omega), ys ++ [zs[i]'hi], by rw [upd_same, map_snocS], by rw [List.length_append, List.length_append, hyl]; rfl, fun j y x h1 h2 => ?_, same_at sm nW⟩
        by_cases hj : j < ys.length
        · rw [List.getElem?_append_left hj] at h1
          rw [List.getElem?_append_left (by omega)] at h2
          exact hya j y x h1 h2
        · have hj2 := (List.getElem?_eq_some_iff.mp h1).1
          rw [List.length_append, List.length_singleton] at hj2
          have ej : j - ys.length = 0 := by omega
          have ej2 : j - (keep (fun k => usedB xs (tl z) (some k)) (xs.take i) 0).length = 0 := by omega
          rw [List.getElem?_append_right (by omega), ej] at h1
          rw [List.getElem?_append_right (by omega), ej2] at h2
          cases h1; cases h2
          exact hall i _ _ hzi hxi
      · rw [if_neg hu, List.append_nil]
        exact ⟨ys, hW, hyl, hya, sm⟩
    rintro H14 ⟨ys, hW, hyl, hya, s14'⟩
    rw [hzl, hul, List.take_length] at hyl hya
    have hkl := keep_len (fun k => usedB xs (tl z) (some k)) xs 0
    have hgk : ∀ x ∈ keep (fun k => usedB xs (tl z) (some k)) xs 0, Good x := fun x hx => hgd x (keep_sub _ _ _ x hx)
    have egk : ∀ wo : Str, (∀ c ∈ tl wo, c ∈ tl z) → gapsOf (keep (fun k => usedB xs (tl z) (some k)) xs 0) (tl wo) = gapsOf xs (tl wo) := fun wo h => gaps_keep h
    generalize keep (fun k => usedB xs (tl z) (some k)) xs 0 = kx at hyl hya hkl hgk egk
    have wd14 := wd13.same s14'
    refine fun p2 dx2 np2 ndx2 ne2' => ?_
    have sI2 : Same H14 (upd (upd H14 dx2 (.own p2)) p2 (.ins C dx2 [])) := fun b ob e => by
      rw [upd_ne (ne_of_none e np2), upd_ne (ne_of_none e ndx2)]; exact e
    refine ⟨p2, dx2, W, ys, kx, rfl, upd_same, sI2 _ _ hW, by omega, by omega, fun i y x h1 h2 => ⟨hya i y x h1 h2, hgk x (List.mem_of_getElem? h2)⟩, fun H15 m1 m2 kp2 nl12 nl22 j2 => ⟨rfl, ?_⟩⟩
    have s15 : Same H14 H15 := fun b ob e => kp2 b ob (ne_of_none e np2) (sI2 _ _ e)
    have wd15 := wd14.same s15
    have sF : Same H7 H15 := s10.trans (s11.trans (s12.trans (s13.trans (s14'.trans s15))))
    have sG : Same H H15 := sE.trans sF
    -- the words
    refine ⟨2, rfl, by decide, by decide, ?_⟩
    refine for_range (lo := 0) (n := 2) (fun i σ H' => ∃ (y9 y10 y11 : Option V), σ = [some (.ref a), some (.str z), some (.ref o), some (.ref R), some (.ref L), some (.ref p), some (.ref D), some (.ref e), some (.ref p2), y9, y10, y11, none] ∧ Same H15 H') ⟨none, none, none, rfl, Same.refl _⟩ ?_ ?_
    · rintro i σ H16 hi ⟨y9, y10, y11, rfl, s16⟩
      refine ⟨.ref a, rfl, .int (0 + (i : Int)), rfl, 10, _, rfl, rfl, a, ns, _, rfl, (sG.trans s16).seq hS, hlen, by omega, fun c => ⟨.int (0 + (i : Int)), rfl, c, _, rfl, rfl, .str z, rfl, _, z, rfl, hz, fun H17 wo s17 hwo => ?_⟩⟩
      have w1 := hwo.lo; have w40 := hwo.hi
      have w100 : wo.length ≤ 100 := by omega
      have s1617 : Same H15 H17 := s16.trans s17
      have wd17 := wd15.same s1617
      have j217 := j2.same s1617
      obtain ⟨dxa, fsa, usa, hpa, ffa, hl1a, hl2a, hra⟩ := id j217
      refine ⟨.ref p2, rfl, p2, dxa, fsa, rfl, hpa, ffa.ga, .str wo, rfl, p2, m1, m2, wo, ys, kx, rfl, j217, hgk, w1, w100, fun H18 g s18 ng eg => ?_⟩
      rw [egk wo hwo.L] at eg
      have wd18 := wd17.same s18
      obtain ⟨dxb, fsb, usb, hpb, ffb, hl1b, hl2b, hrb⟩ := id wd18.j
      refine ⟨.ref p, rfl, p, dxb, fsb, rfl, hpb, ffb.ga, .str wo, rfl, p, l1, l2, wo, zs, xs, rfl, wd18.j, hgd, w1, w100, fun H19 h s19 nh eh => ?_⟩
      have gl1 := gaps_len xs wo w100
      refine ⟨h, _, rfl, .inl (SqL.of eh), fun r nr => ?_⟩
      have s20 : Same H19 (upd H19 r (.lst ((gapsOf xs (tl wo)).map nV))) := same_new nr
      have er : upd H19 r (.lst ((gapsOf xs (tl wo)).map nV)) r = some (.lst ((gapsOf xs (tl wo)).map nV)) := upd_same
      generalize upd H19 r (.lst ((gapsOf xs (tl wo)).map nV)) = H20 at s20 er ⊢
      have s1520 : Same H15 H20 := s1617.trans (s18.trans (s19.trans s20))
      refine ⟨g, r, _, rfl, s20 _ _ (s19 _ _ eg), er, leafN _, by rw [List.length_map]; omega, true, rfl, iteF ?_⟩
      refine ⟨.str wo, rfl, .str wo, wo.length, rfl, ⟨line _ (by omega), rfl⟩, 1, (wo.length : Int), rfl, ⟨by decide, by decide, by omega, by omega⟩, ?_⟩
      have en2 : ((wo.length : Int) - 1).toNat = wo.length - 1 := by omega
      rw [en2]
      refine for_range (lo := 1) (n := wo.length - 1) (fun j σ H' => ∃ (y11 : Option V), σ = [some (.ref a), some (.str z), some (.ref o), some (.ref R), some (.ref L), some (.ref p), some (.ref D), some (.ref e), some (.ref p2), some (.int (0 + (i : Int))), some (.str wo), y11, none] ∧ Same H15 H') ⟨y11, rfl, s1520⟩ ?_ ?_
      · rintro j σ H21 hj ⟨y11, rfl, s21⟩
        have eg' : (1 : Int) + (j : Int) = ((1 + j : Nat) : Int) := by omega
        rw [eg']
        have wd21 := wd15.same s21
        obtain ⟨dxc, fsc, usc, hpc, ffc, hl1c, hl2c, hrc⟩ := id wd21.j
        refine ⟨.ref p, rfl, p, dxc, fsc, rfl, hpc, ffc.de, .str wo, rfl, .int ((1 + j : Nat) : Int), rfl, p, l1, l2, wo, 1 + j, zs, xs, rfl, wd21.j, hgd, w100, by omega, fun H22 s22 => ?_⟩
        have wd22 := wd21.same s22
        refine ⟨.ref D, rfl, D, _, rfl, .inl (SqL.of wd22.hD), flat_ov _, flat_nat _, _, rfl, ?_⟩
        have hin : inV (ov (dec xs (tl wo) (1 + j))) ((idleL xs (tl z)).map nV) = false := inV_ovn _ _ fun n hn hm => by
          have hu : usedB xs (tl z) (some n) = true := usedB_iff.mpr ⟨wo, 1 + j, hwo.L, by omega, by omega, hn⟩
          rw [(mem_idle.mp hm).2] at hu; cases hu
        rw [if_neg Bool.false_ne_true, hin]
        exact iteF ⟨_, rfl, s21.trans s22⟩
      · rintro σ H21 ⟨y11, rfl, s21⟩
        exact ⟨_, _, _, rfl, s21⟩
    · rintro σ H16 ⟨y9, y10, y11, rfl, s16⟩
      have wd16 := wd15.same s16
      obtain ⟨dx', fs', us', hp', ff', hl1', hl2', hr'⟩ := id wd16.j
      refine ⟨.ref p, rfl, p, dx', l1, fs', zs.map V.str, zs.length, rfl, hp', ff'.li, hl1', by rw [List.length_map]; omega, Nat.le_trans (show zs.length ≤ 1000 by omega) (by decide), fun H'' s' => ⟨p, l1, l2, zs, xs, rfl, wd16.j.same s', by omega, rfl, rfl⟩, fun r nr => ?_⟩
      refine ⟨.ref L, rfl, r, L, _, rfl, upd_same, (same_new nr) _ _ wd16.hL, leafS _, by rw [List.length_map]; omega, q _⟩
end
end K31

set_option maxRecDepth 100000
set_option maxHeartbeats 4000000
namespace K31
open PySem PySem.Spec PyProof.Rows L2
theorem all_mk {l : PySem.W.OpenLaw} {w : World} {K : PySem.W.Frag} {h : Heap} {mg : Str → Option Value} {fa C f1 f2 f3 f4 f5 f6 f7 f8 f9 f10 f11 f12 f13 f14 f15 f16 f17 f18 f19 f20 f21 f22 f23 f24 f25 f26 f27 f28 : Addr} (X : K.In h) (G : h.Ns mainGlobals mg) (hfa : mg "law" = some (.ref fa))
    {tk0 tk1 tk2 tk3 tk4 tk5 : Tok}
    {od1 an1 od2 an2 od3 an3 od4 an4 od5 an5 od6 an6 od7 an7 od8 an8 od9 an9 od10 an10 od11 an11 od12 an12 od13 an13 od14 an14 od15 an15 od16 an16 od17 an17 od18 an18 od19 an19 od20 an20 od21 an21 od22 an22 od23 an23 od24 an24 od25 an25 od26 an26 od27 an27 od28 an28 : Option Addr} {sl1 sl2 sl3 sl4 sl5 sl6 sl7 sl8 sl9 sl10 sl11 sl12 sl13 sl14 sl15 sl16 sl17 sl18 sl19 sl20 sl21 sl22 sl23 sl24 sl25 sl26 sl27 sl28 : Array (Option Value)}
    {oc1 kV1 dc1 pm1 cd1 ct1 oc2 kV2 dc2 pm2 cd2 ct2 oc3 kV3 dc3 pm3 cd3 ct3 oc4 kV4 dc4 pm4 cd4 ct4 oc5 kV5 dc5 pm5 cd5 ct5 oc6 kV6 dc6 pm6 cd6 ct6 oc7 kV7 dc7 pm7 cd7 ct7 oc8 kV8 dc8 pm8 cd8 ct8 oc9 kV9 dc9 pm9 cd9 ct9 oc10 kV10 dc10 pm10 cd10 ct10 oc11 kV11 dc11 pm11 cd11 ct11 oc12 kV12 dc12 pm12 cd12 ct12 oc13 kV13 dc13 pm13 cd13 ct13 oc14 kV14 dc14 pm14 cd14 ct14 oc15 kV15 dc15 pm15 cd15 ct15 oc16 kV16 dc16 pm16 cd16 ct16 oc17 kV17 dc17 pm17 cd17 ct17 oc18 kV18 dc18 pm18 cd18 ct18 oc19 kV19 dc19 pm19 cd19 ct19 oc20 kV20 dc20 pm20 cd20 ct20 oc21 kV21 dc21 pm21 cd21 ct21 oc22 kV22 dc22 pm22 cd22 ct22 oc23 kV23 dc23 pm23 cd23 ct23 oc24 kV24 dc24 pm24 cd24 ct24 oc25 kV25 dc25 pm25 cd25 ct25 oc26 kV26 dc26 pm26 cd26 ct26 oc27 kV27 dc27 pm27 cd27 ct27 oc28 kV28 dc28 pm28 cd28 ct28 : Value}
    (c_MOST_JOINT_ROWS : PySem.W.nsIn K mainGlobals "MOST_JOINT_ROWS" = some (some (.int 8 tk0)))
    (c_LONGEST_PART : PySem.W.nsIn K mainGlobals "LONGEST_PART" = some (some (.int 3 tk1)))
    (c_ANY_LETTER : PySem.W.nsIn K mainGlobals "ANY_LETTER" = some (some (.str (Str.ofString "?") tk2)))
    (c_WORD_END : PySem.W.nsIn K mainGlobals "WORD_END" = some (some (.str (Str.ofString ".") tk3)))
    (c_FORBIDS : PySem.W.nsIn K mainGlobals "FORBIDS" = some (some (.str (Str.ofString " no") tk4)))
    (c_SIDE : PySem.W.nsIn K mainGlobals "SIDE" = some (some (.int 3 tk5)))
    (aC : PySem.W.nsIn K mainGlobals "Joints" = some (some (.ref C)))
    (pgC : PySem.W.plainGet K C Str.empty = true)
    (hdC : PySem.W.hasDictIn K C = true)
    (poC : PySem.W.plainOver K C = true)
    (saC : PySem.W.findIn K (.ref C) "__setattr__" = some (some (.builtin "object.__setattr__")))
    (mkC : PySem.W.makesIn K C = true)
    (kcC : PySem.W.keepIn K (.ref C) = true)
    (nC_lines : PySem.W.findIn K (.ref C) "_lines" = some none)
    (nC_rows : PySem.W.findIn K (.ref C) "_rows" = some none)
    (a1 : PySem.W.nsIn K mainGlobals "is_letter" = some (some (.ref f1)))
    (l1 : K.lookup f1 = some ⟨oc1, od1, .func (PySem.W.fnOf "is_letter" "is_letter" (defArgs sLetter) (defBody sLetter) (defScope sLetter) .none kV1 dc1 pm1 an1 cd1 ct1), sl1⟩)
    (c1 : PySem.W.codeIn K cd1 "is_letter" = true)
    (k1 : PySem.W.keepIn K (.ref f1) = true)
    (a2 : PySem.W.nsIn K mainGlobals "_is_part" = some (some (.ref f2)))
    (l2 : K.lookup f2 = some ⟨oc2, od2, .func (PySem.W.fnOf "_is_part" "_is_part" (defArgs sPart) (defBody sPart) (defScope sPart) .none kV2 dc2 pm2 an2 cd2 ct2), sl2⟩)
    (c2 : PySem.W.codeIn K cd2 "_is_part" = true)
    (k2 : PySem.W.keepIn K (.ref f2) = true)
    (a3 : PySem.W.nsIn K mainGlobals "_read_joint" = some (some (.ref f3)))
    (l3 : K.lookup f3 = some ⟨oc3, od3, .func (PySem.W.fnOf "_read_joint" "_read_joint" (defArgs sRead) (defBody sRead) (defScope sRead) .none kV3 dc3 pm3 an3 cd3 ct3), sl3⟩)
    (c3 : PySem.W.codeIn K cd3 "_read_joint" = true)
    (k3 : PySem.W.keepIn K (.ref f3) = true)
    (a4 : PySem.W.nsIn K mainGlobals "_says" = some (some (.ref f4)))
    (l4 : K.lookup f4 = some ⟨oc4, od4, .func (PySem.W.fnOf "_says" "_says" (defArgs sSays) (defBody sSays) (defScope sSays) .none kV4 dc4 pm4 an4 cd4 ct4), sl4⟩)
    (c4 : PySem.W.codeIn K cd4 "_says" = true)
    (k4 : PySem.W.keepIn K (.ref f4) = true)
    (a5 : PySem.W.nsIn K mainGlobals "_fits" = some (some (.ref f5)))
    (l5 : K.lookup f5 = some ⟨oc5, od5, .func (PySem.W.fnOf "_fits" "_fits" (defArgs sFits) (defBody sFits) (defScope sFits) .none kV5 dc5 pm5 an5 cd5 ct5), sl5⟩)
    (c5 : PySem.W.codeIn K cd5 "_fits" = true)
    (k5 : PySem.W.keepIn K (.ref f5) = true)
    (a6 : PySem.W.nsIn K mainGlobals "_words" = some (some (.ref f6)))
    (l6 : K.lookup f6 = some ⟨oc6, od6, .func (PySem.W.fnOf "_words" "_words" (defArgs sWords) (defBody sWords) (defScope sWords) .none kV6 dc6 pm6 an6 cd6 ct6), sl6⟩)
    (c6 : PySem.W.codeIn K cd6 "_words" = true)
    (k6 : PySem.W.keepIn K (.ref f6) = true)
    (a7 : PySem.W.nsIn K mainGlobals "_telling_words" = some (some (.ref f7)))
    (l7 : K.lookup f7 = some ⟨oc7, od7, .func (PySem.W.fnOf "_telling_words" "_telling_words" (defArgs sTelling) (defBody sTelling) (defScope sTelling) .none kV7 dc7 pm7 an7 cd7 ct7), sl7⟩)
    (c7 : PySem.W.codeIn K cd7 "_telling_words" = true)
    (k7 : PySem.W.keepIn K (.ref f7) = true)
    (a8 : PySem.W.nsIn K mainGlobals "idle_joints" = some (some (.ref f8)))
    (l8 : K.lookup f8 = some ⟨oc8, od8, .func (PySem.W.fnOf "idle_joints" "idle_joints" (defArgs sIdleJ) (defBody sIdleJ) (defScope sIdleJ) .none kV8 dc8 pm8 an8 cd8 ct8), sl8⟩)
    (c8 : PySem.W.codeIn K cd8 "idle_joints" = true)
    (k8 : PySem.W.keepIn K (.ref f8) = true)
    (a9 : PySem.W.nsIn K mainGlobals "_law_cell" = some (some (.ref f9)))
    (l9 : K.lookup f9 = some ⟨oc9, od9, .func (PySem.W.fnOf "_law_cell" "_law_cell" (defArgs sCell) (defBody sCell) (defScope sCell) .none kV9 dc9 pm9 an9 cd9 ct9), sl9⟩)
    (c9 : PySem.W.codeIn K cd9 "_law_cell" = true)
    (k9 : PySem.W.keepIn K (.ref f9) = true)
    (a10 : PySem.W.nsIn K mainGlobals "_law_row" = some (some (.ref f10)))
    (l10 : K.lookup f10 = some ⟨oc10, od10, .func (PySem.W.fnOf "_law_row" "_law_row" (defArgs sRow) (defBody sRow) (defScope sRow) .none kV10 dc10 pm10 an10 cd10 ct10), sl10⟩)
    (c10 : PySem.W.codeIn K cd10 "_law_row" = true)
    (k10 : PySem.W.keepIn K (.ref f10) = true)
    (a11 : PySem.W.nsIn K mainGlobals "_law_same" = some (some (.ref f11)))
    (l11 : K.lookup f11 = some ⟨oc11, od11, .func (PySem.W.fnOf "_law_same" "_law_same" (defArgs sSame) (defBody sSame) (defScope sSame) .none kV11 dc11 pm11 an11 cd11 ct11), sl11⟩)
    (c11 : PySem.W.codeIn K cd11 "_law_same" = true)
    (k11 : PySem.W.keepIn K (.ref f11) = true)
    (a12 : PySem.W.nsIn K mainGlobals "_law_letters" = some (some (.ref f12)))
    (l12 : K.lookup f12 = some ⟨oc12, od12, .func (PySem.W.fnOf "_law_letters" "_law_letters" (defArgs sLetters) (defBody sLetters) (defScope sLetters) .none kV12 dc12 pm12 an12 cd12 ct12), sl12⟩)
    (c12 : PySem.W.codeIn K cd12 "_law_letters" = true)
    (k12 : PySem.W.keepIn K (.ref f12) = true)
    (a13 : PySem.W.nsIn K mainGlobals "_law_joint" = some (some (.ref f13)))
    (l13 : K.lookup f13 = some ⟨oc13, od13, .func (PySem.W.fnOf "_law_joint" "_law_joint" (defArgs sJoint) (defBody sJoint) (defScope sJoint) .none kV13 dc13 pm13 an13 cd13 ct13), sl13⟩)
    (c13 : PySem.W.codeIn K cd13 "_law_joint" = true)
    (k13 : PySem.W.keepIn K (.ref f13) = true)
    (a14 : PySem.W.nsIn K mainGlobals "_law_written" = some (some (.ref f14)))
    (l14 : K.lookup f14 = some ⟨oc14, od14, .func (PySem.W.fnOf "_law_written" "_law_written" (defArgs sWritten) (defBody sWritten) (defScope sWritten) .none kV14 dc14 pm14 an14 cd14 ct14), sl14⟩)
    (c14 : PySem.W.codeIn K cd14 "_law_written" = true)
    (k14 : PySem.W.keepIn K (.ref f14) = true)
    (a15 : PySem.W.nsIn K mainGlobals "_law_list" = some (some (.ref f15)))
    (l15 : K.lookup f15 = some ⟨oc15, od15, .func (PySem.W.fnOf "_law_list" "_law_list" (defArgs sList) (defBody sList) (defScope sList) .none kV15 dc15 pm15 an15 cd15 ct15), sl15⟩)
    (c15 : PySem.W.codeIn K cd15 "_law_list" = true)
    (k15 : PySem.W.keepIn K (.ref f15) = true)
    (a16 : PySem.W.nsIn K mainGlobals "_law_says" = some (some (.ref f16)))
    (l16 : K.lookup f16 = some ⟨oc16, od16, .func (PySem.W.fnOf "_law_says" "_law_says" (defArgs sLSays) (defBody sLSays) (defScope sLSays) .none kV16 dc16 pm16 an16 cd16 ct16), sl16⟩)
    (c16 : PySem.W.codeIn K cd16 "_law_says" = true)
    (k16 : PySem.W.keepIn K (.ref f16) = true)
    (a17 : PySem.W.nsIn K mainGlobals "_law_fits" = some (some (.ref f17)))
    (l17 : K.lookup f17 = some ⟨oc17, od17, .func (PySem.W.fnOf "_law_fits" "_law_fits" (defArgs sLFits) (defBody sLFits) (defScope sLFits) .none kV17 dc17 pm17 an17 cd17 ct17), sl17⟩)
    (c17 : PySem.W.codeIn K cd17 "_law_fits" = true)
    (k17 : PySem.W.keepIn K (.ref f17) = true)
    (a18 : PySem.W.nsIn K mainGlobals "_law_decider" = some (some (.ref f18)))
    (l18 : K.lookup f18 = some ⟨oc18, od18, .func (PySem.W.fnOf "_law_decider" "_law_decider" (defArgs sLDec) (defBody sLDec) (defScope sLDec) .none kV18 dc18 pm18 an18 cd18 ct18), sl18⟩)
    (c18 : PySem.W.codeIn K cd18 "_law_decider" = true)
    (k18 : PySem.W.keepIn K (.ref f18) = true)
    (a19 : PySem.W.nsIn K mainGlobals "_law_word" = some (some (.ref f19)))
    (l19 : K.lookup f19 = some ⟨oc19, od19, .func (PySem.W.fnOf "_law_word" "_law_word" (defArgs sWord) (defBody sWord) (defScope sWord) .none kV19 dc19 pm19 an19 cd19 ct19), sl19⟩)
    (c19 : PySem.W.codeIn K cd19 "_law_word" = true)
    (k19 : PySem.W.keepIn K (.ref f19) = true)
    (a20 : PySem.W.nsIn K mainGlobals "_law_sides" = some (some (.ref f20)))
    (l20 : K.lookup f20 = some ⟨oc20, od20, .func (PySem.W.fnOf "_law_sides" "_law_sides" (defArgs sSides) (defBody sSides) (defScope sSides) .none kV20 dc20 pm20 an20 cd20 ct20), sl20⟩)
    (c20 : PySem.W.codeIn K cd20 "_law_sides" = true)
    (k20 : PySem.W.keepIn K (.ref f20) = true)
    (a21 : PySem.W.nsIn K mainGlobals "_law_idle" = some (some (.ref f21)))
    (l21 : K.lookup f21 = some ⟨oc21, od21, .func (PySem.W.fnOf "_law_idle" "_law_idle" (defArgs sIdle) (defBody sIdle) (defScope sIdle) .none kV21 dc21 pm21 an21 cd21 ct21), sl21⟩)
    (c21 : PySem.W.codeIn K cd21 "_law_idle" = true)
    (k21 : PySem.W.keepIn K (.ref f21) = true)
    (a22 : PySem.W.nsIn K mainGlobals "law" = some (some (.ref f22)))
    (l22 : K.lookup f22 = some ⟨oc22, od22, .func (PySem.W.fnOf "law" "law" (defArgs sLaw) (defBody sLaw) (defScope sLaw) .none kV22 dc22 pm22 an22 cd22 ct22), sl22⟩)
    (c22 : PySem.W.codeIn K cd22 "law" = true)
    (k22 : PySem.W.keepIn K (.ref f22) = true)
    (a23 : PySem.W.findIn K (.ref C) "__init__" = some (some (.ref f23)))
    (i23 : PySem.W.isFn K (.ref f23) = true)
    (l23 : K.lookup f23 = some ⟨oc23, od23, .func (PySem.W.fnOf "__init__" "Joints.__init__" (defArgs sInit) (defBody sInit) (defScope sInit) .none kV23 dc23 pm23 an23 cd23 ct23), sl23⟩)
    (c23 : PySem.W.codeIn K cd23 "Joints.__init__" = true)
    (k23 : PySem.W.keepIn K (.ref f23) = true)
    (a24 : PySem.W.findIn K (.ref C) "__len__" = some (some (.ref f24)))
    (i24 : PySem.W.isFn K (.ref f24) = true)
    (x24 : PySem.W.typeIn K (.ref f24) = some (.type "function"))
    (l24 : K.lookup f24 = some ⟨oc24, od24, .func (PySem.W.fnOf "__len__" "Joints.__len__" (defArgs sLen) (defBody sLen) (defScope sLen) .none kV24 dc24 pm24 an24 cd24 ct24), sl24⟩)
    (c24 : PySem.W.codeIn K cd24 "Joints.__len__" = true)
    (k24 : PySem.W.keepIn K (.ref f24) = true)
    (a25 : PySem.W.findIn K (.ref C) "__iter__" = some (some (.ref f25)))
    (i25 : PySem.W.isFn K (.ref f25) = true)
    (l25 : K.lookup f25 = some ⟨oc25, od25, .func (PySem.W.fnOf "__iter__" "Joints.__iter__" (defArgs sIter) (defBody sIter) (defScope sIter) .none kV25 dc25 pm25 an25 cd25 ct25), sl25⟩)
    (c25 : PySem.W.codeIn K cd25 "Joints.__iter__" = true)
    (k25 : PySem.W.keepIn K (.ref f25) = true)
    (a26 : PySem.W.findIn K (.ref C) "decider" = some (some (.ref f26)))
    (i26 : PySem.W.isFn K (.ref f26) = true)
    (l26 : K.lookup f26 = some ⟨oc26, od26, .func (PySem.W.fnOf "decider" "Joints.decider" (defArgs sDec) (defBody sDec) (defScope sDec) .none kV26 dc26 pm26 an26 cd26 ct26), sl26⟩)
    (c26 : PySem.W.codeIn K cd26 "Joints.decider" = true)
    (k26 : PySem.W.keepIn K (.ref f26) = true)
    (a27 : PySem.W.findIn K (.ref C) "is_joint" = some (some (.ref f27)))
    (i27 : PySem.W.isFn K (.ref f27) = true)
    (l27 : K.lookup f27 = some ⟨oc27, od27, .func (PySem.W.fnOf "is_joint" "Joints.is_joint" (defArgs sIsJ) (defBody sIsJ) (defScope sIsJ) .none kV27 dc27 pm27 an27 cd27 ct27), sl27⟩)
    (c27 : PySem.W.codeIn K cd27 "Joints.is_joint" = true)
    (k27 : PySem.W.keepIn K (.ref f27) = true)
    (a28 : PySem.W.findIn K (.ref C) "gaps" = some (some (.ref f28)))
    (i28 : PySem.W.isFn K (.ref f28) = true)
    (l28 : K.lookup f28 = some ⟨oc28, od28, .func (PySem.W.fnOf "gaps" "Joints.gaps" (defArgs sGaps) (defBody sGaps) (defScope sGaps) .none kV28 dc28 pm28 an28 cd28 ct28), sl28⟩)
    (c28 : PySem.W.codeIn K cd28 "Joints.gaps" = true)
    (k28 : PySem.W.keepIn K (.ref f28) = true)
    (z0 : PySem.W.nsIn K mainGlobals "len" = some none)
    (z1 : PySem.W.nsIn K mainGlobals "int" = some none)
    (z2 : PySem.W.nsIn K mainGlobals "str" = some none)
    (z3 : PySem.W.nsIn K mainGlobals "bool" = some none)
    (z4 : PySem.W.nsIn K mainGlobals "tuple" = some none)
    (z5 : PySem.W.nsIn K mainGlobals "list" = some none)
    (z6 : PySem.W.nsIn K mainGlobals "range" = some none)
    (z7 : PySem.W.nsIn K mainGlobals "isinstance" = some none)
    (z8 : PySem.W.nsIn K mainGlobals "sorted" = some none)
    (z9 : PySem.W.nsIn K mainGlobals "enumerate" = some none)
    (z10 : PySem.W.nsIn K mainGlobals "zip" = some none)
    (z11 : PySem.W.nsIn K mainGlobals "all" = some none)
    (z12 : PySem.W.nsIn K mainGlobals "iter" = some none)
    (z13 : PySem.W.nsIn K mainGlobals "max" = some none)
    (z14 : PySem.W.nsIn K mainGlobals "min" = some none) :
    ∃ fd : FuncData, (∀ (s : Shared) (v : Value), BindsTo s fd ⟨[v], []⟩ [("_law_script", v)]) ∧ ∀ base : Heap, K.In base → base.Ns mainGlobals mg → FnOk l.prog w K mg base CX0 7 fa fd ["_law_script"] (spLaw K) := by
  have e := hfa.symm.trans (PySem.W.mg_of X G a22); cases e
  have B : Blt mg := ⟨PySem.W.mg_none_of X G z0, PySem.W.mg_none_of X G z1, PySem.W.mg_none_of X G z2, PySem.W.mg_none_of X G z3, PySem.W.mg_none_of X G z4, PySem.W.mg_none_of X G z5, PySem.W.mg_none_of X G z6, PySem.W.mg_none_of X G z7, PySem.W.mg_none_of X G z8, PySem.W.mg_none_of X G z9, PySem.W.mg_none_of X G z10, PySem.W.mg_none_of X G z11, PySem.W.mg_none_of X G z12, PySem.W.mg_none_of X G z13, PySem.W.mg_none_of X G z14⟩
  have Z : Cst mg tk0 tk1 tk2 tk3 tk4 := ⟨PySem.W.mg_of X G c_MOST_JOINT_ROWS, PySem.W.mg_of X G c_LONGEST_PART, PySem.W.mg_of X G c_ANY_LETTER, PySem.W.mg_of X G c_WORD_END, PySem.W.mg_of X G c_FORBIDS, ⟨tk5, PySem.W.mg_of X G c_SIDE⟩⟩
  have T : Txt K mg C := ⟨⟨pgC, hdC, poC, saC⟩, nC_lines, nC_rows, PySem.W.mg_of X G aC⟩
  have F1 := fun_mk (st := sLetter) l1 c1 k1
  have F2 := fun_mk (st := sPart) l2 c2 k2
  have F3 := fun_mk (st := sRead) l3 c3 k3
  have F4 := fun_mk (st := sSays) l4 c4 k4
  have F5 := fun_mk (st := sFits) l5 c5 k5
  have F6 := fun_mk (st := sWords) l6 c6 k6
  have F7 := fun_mk (st := sTelling) l7 c7 k7
  have F8 := fun_mk (st := sIdleJ) l8 c8 k8
  have F9 := fun_mk (st := sCell) l9 c9 k9
  have F10 := fun_mk (st := sRow) l10 c10 k10
  have F11 := fun_mk (st := sSame) l11 c11 k11
  have F12 := fun_mk (st := sLetters) l12 c12 k12
  have F13 := fun_mk (st := sJoint) l13 c13 k13
  have F14 := fun_mk (st := sWritten) l14 c14 k14
  have F15 := fun_mk (st := sList) l15 c15 k15
  have F16 := fun_mk (st := sLSays) l16 c16 k16
  have F17 := fun_mk (st := sLFits) l17 c17 k17
  have F18 := fun_mk (st := sLDec) l18 c18 k18
  have F19 := fun_mk (st := sWord) l19 c19 k19
  have F20 := fun_mk (st := sSides) l20 c20 k20
  have F21 := fun_mk (st := sIdle) l21 c21 k21
  have F22 := fun_mk (st := sLaw) l22 c22 k22
  have F23 := fun_mk (st := sInit) l23 c23 k23
  have F24 := fun_mk (st := sLen) l24 c24 k24
  have F25 := fun_mk (st := sIter) l25 c25 k25
  have F26 := fun_mk (st := sDec) l26 c26 k26
  have F27 := fun_mk (st := sIsJ) l27 c27 k27
  have F28 := fun_mk (st := sGaps) l28 c28 k28
  have b1 := F1.binds (ps := ["char"]) fun _ _ _ _ _ _ us hl => match us, hl with | [_], _ => rfl
  have b2 := F2.binds (ps := ["text", "end"]) fun _ _ _ _ _ _ us hl => match us, hl with | [_, _], _ => rfl
  have b3 := F3.binds (ps := ["line"]) fun _ _ _ _ _ _ us hl => match us, hl with | [_], _ => rfl
  have b4 := F4.binds (ps := ["part", "text"]) fun _ _ _ _ _ _ us hl => match us, hl with | [_, _], _ => rfl
  have b5 := F5.binds (ps := ["row", "word", "gap"]) fun _ _ _ _ _ _ us hl => match us, hl with | [_, _, _], _ => rfl
  have b6 := F6.binds (ps := ["letters", "length"]) fun _ _ _ _ _ _ us hl => match us, hl with | [_, _], _ => rfl
  have b7 := F7.binds (ps := ["letters"]) fun _ _ _ _ _ _ us hl => match us, hl with | [_], _ => rfl
  have b8 := F8.binds (ps := ["joints", "letters"]) fun _ _ _ _ _ _ us hl => match us, hl with | [_, _], _ => rfl
  have b9 := F9.binds (ps := ["_law_script", "_law_k"]) fun _ _ _ _ _ _ us hl => match us, hl with | [_, _], _ => rfl
  have b10 := F10.binds (ps := ["_law_cell_here", "_law_limits"]) fun _ _ _ _ _ _ us hl => match us, hl with | [_, _], _ => rfl
  have b11 := F11.binds (ps := ["_law_one", "_law_two"]) fun _ _ _ _ _ _ us hl => match us, hl with | [_, _], _ => rfl
  have b12 := F12.binds (ps := ["_law_cell_here"]) fun _ _ _ _ _ _ us hl => match us, hl with | [_], _ => rfl
  have b13 := F13.binds (ps := ["_law_cell_here", "_law_letters_here", "_law_share"]) fun _ _ _ _ _ _ us hl => match us, hl with | [_, _, _], _ => rfl
  have b14 := F14.binds (ps := ["_law_row_here"]) fun _ _ _ _ _ _ us hl => match us, hl with | [_], _ => rfl
  have b15 := F15.binds (ps := ["_law_script", "_law_at", "_law_letters_here"]) fun _ _ _ _ _ _ us hl => match us, hl with | [_, _, _], _ => rfl
  have b16 := F16.binds (ps := ["_law_part", "_law_text"]) fun _ _ _ _ _ _ us hl => match us, hl with | [_, _], _ => rfl
  have b17 := F17.binds (ps := ["_law_row_here", "_law_word_here", "_law_gap"]) fun _ _ _ _ _ _ us hl => match us, hl with | [_, _, _], _ => rfl
  have b18 := F18.binds (ps := ["_law_rows", "_law_word_here", "_law_gap"]) fun _ _ _ _ _ _ us hl => match us, hl with | [_, _, _], _ => rfl
  have b19 := F19.binds (ps := ["_law_cell_here", "_law_letters_here"]) fun _ _ _ _ _ _ us hl => match us, hl with | [_, _], _ => rfl
  have b20 := F20.binds (ps := ["_law_letters_here"]) fun _ _ _ _ _ _ us hl => match us, hl with | [_], _ => rfl
  have b21 := F21.binds (ps := ["_law_rows", "_law_letters_here"]) fun _ _ _ _ _ _ us hl => match us, hl with | [_, _], _ => rfl
  have b23 := F23.binds (ps := ["self", "lines"]) fun _ _ _ _ _ _ us hl => match us, hl with | [_, _], _ => rfl
  have b24 := F24.binds (ps := ["self"]) fun _ _ _ _ _ _ us hl => match us, hl with | [_], _ => rfl
  have b25 := F25.binds (ps := ["self"]) fun _ _ _ _ _ _ us hl => match us, hl with | [_], _ => rfl
  have b26 := F26.binds (ps := ["self", "word", "gap"]) fun _ _ _ _ _ _ us hl => match us, hl with | [_, _, _], _ => rfl
  have b27 := F27.binds (ps := ["self", "word", "gap"]) fun _ _ _ _ _ _ us hl => match us, hl with | [_, _, _], _ => rfl
  have b28 := F28.binds (ps := ["self", "word"]) fun _ _ _ _ _ _ us hl => match us, hl with | [_, _], _ => rfl
  exact ⟨PySem.W.fnOf "law" "law" (defArgs sLaw) (defBody sLaw) (defScope sLaw) .none kV22 dc22 pm22 an22 cd22 ct22, fun s v => .of_eq rfl, fun base _ _ =>
    ok_law B Z T ⟨mkC, a23, i23, kcC⟩ F22 F23 b23 F24 b24 ⟨a24, x24⟩ F25 b25 ⟨a25, i25⟩ F26 b26 ⟨a26, i26, k26⟩ F27 b27 ⟨a27, i27, k27⟩ F28 b28 ⟨a28, i28, k28⟩ F1 b1 (PySem.W.mg_of X G a1) F2 b2 (PySem.W.mg_of X G a2) F3 b3 (PySem.W.mg_of X G a3) F4 b4 (PySem.W.mg_of X G a4) F5 b5 (PySem.W.mg_of X G a5) F6 b6 (PySem.W.mg_of X G a6) F7 b7 (PySem.W.mg_of X G a7) F8 b8 (PySem.W.mg_of X G a8) F9 b9 (PySem.W.mg_of X G a9) F10 b10 (PySem.W.mg_of X G a10) F11 b11 (PySem.W.mg_of X G a11) F12 b12 (PySem.W.mg_of X G a12) F13 b13 (PySem.W.mg_of X G a13) F14 b14 (PySem.W.mg_of X G a14) F15 b15 (PySem.W.mg_of X G a15) F16 b16 (PySem.W.mg_of X G a16) F17 b17 (PySem.W.mg_of X G a17) F18 b18 (PySem.W.mg_of X G a18) F19 b19 (PySem.W.mg_of X G a19) F20 b20 (PySem.W.mg_of X G a20) F21 b21 (PySem.W.mg_of X G a21)⟩
end K31
open PySem PySem.W PyProof.Rows
set_option maxRecDepth 100000 in
set_option maxHeartbeats 0 in
theorem PySem.Challenge.cw_laidforall_k31_idle_joints_holds : PySem.Challenge.rw_laidforall_k31_idle_joints.Holds := by
  w_on; o_law; k_head; (case hw => w_witness2)
  k_fill
  refine L2.walk_of (l := PySem.Challenge.rw_laidforall_k31_idle_joints) (n := 63) (k := 7) (x := "_law_script") (CX := fun _ => L2.CX0) (sp := fun w => K31.spLaw _) rfl (by decide) rfl ⟨rfl, by decide, by decide⟩ (fun w h Y => PySem.W.kIn_of Y) ?F (fun _ _ a ns hl _ hS => ⟨a, ns, rfl, hS, hl, fun _ => rfl⟩) (fun _ _ _ _ _ h => h)
  case F =>
    intro w mg fa h KX G hmg
    refine' K31.all_mk KX G hmg ?zz_c_MOST_JOINT_ROWS ?zz_c_LONGEST_PART ?zz_c_ANY_LETTER ?zz_c_WORD_END ?zz_c_FORBIDS ?zz_c_SIDE ?zz_aC ?zz_pgC ?zz_hdC ?zz_poC ?zz_saC ?zz_mkC ?zz_kcC ?zz_nC_lines ?zz_nC_rows ?zz_a1 ?zz_l1 ?zz_c1 ?zz_k1 ?zz_a2 ?zz_l2 ?zz_c2 ?zz_k2 ?zz_a3 ?zz_l3 ?zz_c3 ?zz_k3 ?zz_a4 ?zz_l4 ?zz_c4 ?zz_k4 ?zz_a5 ?zz_l5 ?zz_c5 ?zz_k5 ?zz_a6 ?zz_l6 ?zz_c6 ?zz_k6 ?zz_a7 ?zz_l7 ?zz_c7 ?zz_k7 ?zz_a8 ?zz_l8 ?zz_c8 ?zz_k8 ?zz_a9 ?zz_l9 ?zz_c9 ?zz_k9 ?zz_a10 ?zz_l10 ?zz_c10 ?zz_k10 ?zz_a11 ?zz_l11 ?zz_c11 ?zz_k11 ?zz_a12 ?zz_l12 ?zz_c12 ?zz_k12 ?zz_a13 ?zz_l13 ?zz_c13 ?zz_k13 ?zz_a14 ?zz_l14 ?zz_c14 ?zz_k14 ?zz_a15 ?zz_l15 ?zz_c15 ?zz_k15 ?zz_a16 ?zz_l16 ?zz_c16 ?zz_k16 ?zz_a17 ?zz_l17 ?zz_c17 ?zz_k17 ?zz_a18 ?zz_l18 ?zz_c18 ?zz_k18 ?zz_a19 ?zz_l19 ?zz_c19 ?zz_k19 ?zz_a20 ?zz_l20 ?zz_c20 ?zz_k20 ?zz_a21 ?zz_l21 ?zz_c21 ?zz_k21 ?zz_a22 ?zz_l22 ?zz_c22 ?zz_k22 ?zz_a23 ?zz_i23 ?zz_l23 ?zz_c23 ?zz_k23 ?zz_a24 ?zz_i24 ?zz_x24 ?zz_l24 ?zz_c24 ?zz_k24 ?zz_a25 ?zz_i25 ?zz_l25 ?zz_c25 ?zz_k25 ?zz_a26 ?zz_i26 ?zz_l26 ?zz_c26 ?zz_k26 ?zz_a27 ?zz_i27 ?zz_l27 ?zz_c27 ?zz_k27 ?zz_a28 ?zz_i28 ?zz_l28 ?zz_c28 ?zz_k28 ?zz_z0 ?zz_z1 ?zz_z2 ?zz_z3 ?zz_z4 ?zz_z5 ?zz_z6 ?zz_z7 ?zz_z8 ?zz_z9 ?zz_z10 ?zz_z11 ?zz_z12 ?zz_z13 ?zz_z14
    (case zz_c_MOST_JOINT_ROWS => first | k_is | rfl)
    (case zz_c_LONGEST_PART => first | k_is | rfl)
    (case zz_c_ANY_LETTER => first | k_is | rfl)
    (case zz_c_WORD_END => first | k_is | rfl)
    (case zz_c_FORBIDS => first | k_is | rfl)
    (case zz_c_SIDE => first | k_is | rfl)
    (case zz_aC => first | k_is | rfl)
    (case zz_pgC => first | k_is | rfl)
    (case zz_hdC => first | k_is | rfl)
    (case zz_poC => first | k_is | rfl)
    (case zz_saC => first | k_is | rfl)
    (case zz_mkC => first | k_is | rfl)
    (case zz_kcC => first | k_is | rfl)
    (case zz_nC_lines => first | k_is | rfl)
    (case zz_nC_rows => first | k_is | rfl)
    (case zz_a1 => first | k_is | rfl)
    (case zz_l1 => first | k_is | rfl)
    (case zz_c1 => first | k_is | rfl)
    (case zz_k1 => first | k_is | rfl)
    (case zz_a2 => first | k_is | rfl)
    (case zz_l2 => first | k_is | rfl)
    (case zz_c2 => first | k_is | rfl)
    (case zz_k2 => first | k_is | rfl)
    (case zz_a3 => first | k_is | rfl)
    (case zz_l3 => first | k_is | rfl)
    (case zz_c3 => first | k_is | rfl)
    (case zz_k3 => first | k_is | rfl)
    (case zz_a4 => first | k_is | rfl)
    (case zz_l4 => first | k_is | rfl)
    (case zz_c4 => first | k_is | rfl)
    (case zz_k4 => first | k_is | rfl)
    (case zz_a5 => first | k_is | rfl)
    (case zz_l5 => first | k_is | rfl)
    (case zz_c5 => first | k_is | rfl)
    (case zz_k5 => first | k_is | rfl)
    (case zz_a6 => first | k_is | rfl)
    (case zz_l6 => first | k_is | rfl)
    (case zz_c6 => first | k_is | rfl)
    (case zz_k6 => first | k_is | rfl)
    (case zz_a7 => first | k_is | rfl)
    (case zz_l7 => first | k_is | rfl)
    (case zz_c7 => first | k_is | rfl)
    (case zz_k7 => first | k_is | rfl)
    (case zz_a8 => first | k_is | rfl)
    (case zz_l8 => first | k_is | rfl)
    (case zz_c8 => first | k_is | rfl)
    (case zz_k8 => first | k_is | rfl)
    (case zz_a9 => first | k_is | rfl)
    (case zz_l9 => first | k_is | rfl)
    (case zz_c9 => first | k_is | rfl)
    (case zz_k9 => first | k_is | rfl)
    (case zz_a10 => first | k_is | rfl)
    (case zz_l10 => first | k_is | rfl)
    (case zz_c10 => first | k_is | rfl)
    (case zz_k10 => first | k_is | rfl)
    (case zz_a11 => first | k_is | rfl)
    (case zz_l11 => first | k_is | rfl)
    (case zz_c11 => first | k_is | rfl)
    (case zz_k11 => first | k_is | rfl)
    (case zz_a12 => first | k_is | rfl)
    (case zz_l12 => first | k_is | rfl)
    (case zz_c12 => first | k_is | rfl)
    (case zz_k12 => first | k_is | rfl)
    (case zz_a13 => first | k_is | rfl)
    (case zz_l13 => first | k_is | rfl)
    (case zz_c13 => first | k_is | rfl)
    (case zz_k13 => first | k_is | rfl)
    (case zz_a14 => first | k_is | rfl)
    (case zz_l14 => first | k_is | rfl)
    (case zz_c14 => first | k_is | rfl)
    (case zz_k14 => first | k_is | rfl)
    (case zz_a15 => first | k_is | rfl)
    (case zz_l15 => first | k_is | rfl)
    (case zz_c15 => first | k_is | rfl)
    (case zz_k15 => first | k_is | rfl)
    (case zz_a16 => first | k_is | rfl)
    (case zz_l16 => first | k_is | rfl)
    (case zz_c16 => first | k_is | rfl)
    (case zz_k16 => first | k_is | rfl)
    (case zz_a17 => first | k_is | rfl)
    (case zz_l17 => first | k_is | rfl)
    (case zz_c17 => first | k_is | rfl)
    (case zz_k17 => first | k_is | rfl)
    (case zz_a18 => first | k_is | rfl)
    (case zz_l18 => first | k_is | rfl)
    (case zz_c18 => first | k_is | rfl)
    (case zz_k18 => first | k_is | rfl)
    (case zz_a19 => first | k_is | rfl)
    (case zz_l19 => first | k_is | rfl)
    (case zz_c19 => first | k_is | rfl)
    (case zz_k19 => first | k_is | rfl)
    (case zz_a20 => first | k_is | rfl)
    (case zz_l20 => first | k_is | rfl)
    (case zz_c20 => first | k_is | rfl)
    (case zz_k20 => first | k_is | rfl)
    (case zz_a21 => first | k_is | rfl)
    (case zz_l21 => first | k_is | rfl)
    (case zz_c21 => first | k_is | rfl)
    (case zz_k21 => first | k_is | rfl)
    (case zz_a22 => first | k_is | rfl)
    (case zz_l22 => first | k_is | rfl)
    (case zz_c22 => first | k_is | rfl)
    (case zz_k22 => first | k_is | rfl)
    (case zz_a23 => first | k_is | rfl)
    (case zz_i23 => first | k_is | rfl)
    (case zz_l23 => first | k_is | rfl)
    (case zz_c23 => first | k_is | rfl)
    (case zz_k23 => first | k_is | rfl)
    (case zz_a24 => first | k_is | rfl)
    (case zz_i24 => first | k_is | rfl)
    (case zz_x24 => first | k_is | rfl)
    (case zz_l24 => first | k_is | rfl)
    (case zz_c24 => first | k_is | rfl)
    (case zz_k24 => first | k_is | rfl)
    (case zz_a25 => first | k_is | rfl)
    (case zz_i25 => first | k_is | rfl)
    (case zz_l25 => first | k_is | rfl)
    (case zz_c25 => first | k_is | rfl)
    (case zz_k25 => first | k_is | rfl)
    (case zz_a26 => first | k_is | rfl)
    (case zz_i26 => first | k_is | rfl)
    (case zz_l26 => first | k_is | rfl)
    (case zz_c26 => first | k_is | rfl)
    (case zz_k26 => first | k_is | rfl)
    (case zz_a27 => first | k_is | rfl)
    (case zz_i27 => first | k_is | rfl)
    (case zz_l27 => first | k_is | rfl)
    (case zz_c27 => first | k_is | rfl)
    (case zz_k27 => first | k_is | rfl)
    (case zz_a28 => first | k_is | rfl)
    (case zz_i28 => first | k_is | rfl)
    (case zz_l28 => first | k_is | rfl)
    (case zz_c28 => first | k_is | rfl)
    (case zz_k28 => first | k_is | rfl)
    (case zz_z0 => first | k_is | rfl)
    (case zz_z1 => first | k_is | rfl)
    (case zz_z2 => first | k_is | rfl)
    (case zz_z3 => first | k_is | rfl)
    (case zz_z4 => first | k_is | rfl)
    (case zz_z5 => first | k_is | rfl)
    (case zz_z6 => first | k_is | rfl)
    (case zz_z7 => first | k_is | rfl)
    (case zz_z8 => first | k_is | rfl)
    (case zz_z9 => first | k_is | rfl)
    (case zz_z10 => first | k_is | rfl)
    (case zz_z11 => first | k_is | rfl)
    (case zz_z12 => first | k_is | rfl)
    (case zz_z13 => first | k_is | rfl)
    (case zz_z14 => first | k_is | rfl)

