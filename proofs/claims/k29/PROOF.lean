import PyProof.Rows.All
import Wide.All
import OpenK.AllK
import Wide.FinOn
import HandS.Zip
import HandS.Style
import HandS.ListItems
import KE.GoesMore
import KE.GoesZip
import HandS.ForMost
import HandS.OwnIter
import HandS.IterNext
import HandS.IterVal
import KE.KIsAll
import KE.KTryMore
import HandS.ForExc
import HandS.ExcInit
import HandS.ExcIs
import HandS.ExcField
import HandS.IsInst
import HandS.TupAny
import HandS.Walk
import HandS.NoneIn
import HandS.Evl
import HandS.Words
import HandS.FStr
import HandS.Text
import HandS.StrMore
import HandS.More
import HandS.Deep
import HandS.Codes
import HandS.Star
import PySem.Challenge.RW_laidforall_k29_syllables_of_tokens
set_option Elab.async false
set_option linter.all false
set_option maxRecDepth 100000
set_option maxHeartbeats 2000000
namespace RJ
open PySem PySem.Spec PyProof.Rows L2
/-! ### enumerate(text) -/
def IteS (x : Str) : It :=
  ⟨fun i H => i < x.cps.size, fun i H v H' => ∃ T c, v = .ref T ∧ H T = none ∧ H' = upd H T (.tup [.int (i : Nat), .str ⟨#[c]⟩]) ∧ x.cps[i]? = some c, fun i H => i = x.cps.size⟩
theorem turn_enumS {P : Program} {w : World} {K : PySem.W.Frag} {elts : List Expr} {kk : Nat} {tpos : Pos} (x : Str) (t : Tok) (e it : Addr) :
    Turn P w K (.Tuple elts kk tpos) (IteS x) [e, it] e (fun i h => (∃ old, IsEnum h e it ((i : Nat) : Int) old) ∧ h.IsStrIter it (strIterType x) x t i ∧ e ≠ it) where
  mem := by simp
  obj := fun i h st b hb => by
    obtain ⟨⟨old, he⟩, ⟨o, ho, hc, hd⟩, _⟩ := st
    have eb : b = e ∨ b = it := by simpa using hb
    rcases eb with y | y <;> rw [y]
    · exact ⟨_, he, fun v q => nomatch q⟩
    · exact ⟨o, ho, fun v q => by rw [hd] at q; cases q⟩
  keep := fun i h h' st k => let ⟨⟨old, he⟩, ⟨o, ho, r⟩, ne⟩ := st; ⟨⟨old, k e (by simp) _ he⟩, ⟨o, k it (by simp) o ho, r⟩, ne⟩
  item := by
    intro X hP hw hK hc i pins s σ H E I hf st hg
    subst hP hw hK
    obtain ⟨⟨old, he⟩, hit, ne⟩ := st
    have hel : e < s.heap.objs.size := Heap.lt_size he
    have hil : it < s.heap.objs.size := by obtain ⟨_, q, _⟩ := hit; exact Heap.lt_size q
    have hd0 : X.A.in1.handled = none := I.ok.hd hc
    refine wpAny_pyNext_enum_itemD (Draws.text hd0 it x t) he hit hg ne (by simp [ne]) fun u' h' tk hP2 ho st2 hT hsz hk => ?_
    obtain ⟨c, u, hx, rfl⟩ := hP2
    refine ⟨_, rfl, wpAny_letOwnedTupleGo_enum (s := { s with heap := h', toks := tk + 1 }) ho fun h'' he' sb => ?_⟩
    have hT2 : h''.get? s.heap.objs.size = some { cls := .type "tuple", data := .seq #[.int i tk, .str ⟨#[c]⟩ u] } := (sb.2 _ (Nat.ne_of_gt hel)).trans hT
    have new : ObjOk X.prog X.w (upd H s.heap.objs.size (.tup [.int (i : Nat), .str ⟨#[c]⟩])) h'' s.heap.objs.size (.tup [.int (i : Nat), .str ⟨#[c]⟩]) := ⟨by show 2 ≤ sizeLine; decide, [.int i tk, .str ⟨#[c]⟩ u], .cons ⟨_, rfl⟩ (.cons ⟨_, rfl⟩ .nil), ⟨_, hT2, rfl, _, rfl⟩⟩
    have I1 : Inv X pins σ (upd H s.heap.objs.size (.tup [.int (i : Nat), .str ⟨#[c]⟩])) { s with heap := h'', toks := tk + 1 } :=
      I.turnedNew (ch := [e, it]) (fun b ob hb q => (sb.2 b (fun z => hb (by simp [z]))).trans (hk b ob (fun z => hb (by simp [z])) (fun z => hb (by simp [z])) q)) hf (Nat.le_refl _) new
    refine ⟨.ref s.heap.objs.size, _, I1, rfl, ⟨_, c, rfl, I.hok.fresh (Nat.le_refl _), rfl, hx⟩, ⟨⟨.str ⟨#[c]⟩ u, ?_⟩, ?_, ne⟩, fun b hb => ?_⟩
    · rw [show ((i + 1 : Nat) : Int) = (i : Int) + 1 by omega]; exact he'
    · obtain ⟨o, q, r⟩ := st2
      exact ⟨o, (sb.2 it (Ne.symm ne)).trans q, r⟩
    · have eb : b = e ∨ b = it := by simpa using hb
      have hb' : b < s.heap.objs.size := by rcases eb with y | y <;> rw [y] <;> assumption
      rw [upd_ne (Nat.ne_of_lt hb')]; exact (hf b hb).1
  done := by
    intro X hP hw hK hc i pins s σ H E I hf st hg
    subst hP hw hK
    obtain ⟨⟨old, he⟩, hit, ne⟩ := st
    obtain ⟨f0, f1, f2, f3, f4, f5⟩ := hf it (by simp)
    have hd0 : X.A.in1.handled = none := I.ok.hd hc
    have hi : i = x.cps.size := hg
    refine wpAny_pyNext_enum_endD (Draws.text hd0 it x t) he (by rw [← hi]; exact hit) fun h' eb => ?_
    exact ⟨rfl, I.turned (t' := s.toks) (fun b o hb q => eb b o hb q) f0 f1 f3 f4 f5⟩
  self := fun A i s Q E st h => let ⟨⟨_, he⟩, _⟩ := st; wpAny_pyIter_enum he h
def iEnumS (ta : TA) : TI := fun σ H R => ta σ H fun vs H1 => ∃ x, vs = [.str x] ∧ R (IteS x) H1
theorem pi_enumS {X : Cx} {e : Expr} {ta : TA} {p pos tpos : Pos} {elts : List Expr} {kk : Nat} (hg : Gl X "enumerate") (hm : X.mg "enumerate" = none) (ha : PA X [e] ta) (hs : starEach [e] X.env = [(false, eval e X.env)] := by rfl) :
    PI X (.Tuple elts kk tpos) (.Call (.Name "enumerate" p) [e] [] pos) (iEnumS ta) := by
  refine ⟨fun pins s σ H R I h => Call_ (ld_blt I hg hm boot_enumerate (PyProof.Rows.callWith_type1 (thn (ha.run pos pins s σ H _ I h) fun us s1 ⟨vs, H1, I1, r1, q1⟩ => ?_) hs rfl))⟩
  obtain ⟨x, rfl, q⟩ := q1
  cases r1 with
  | cons r rr =>
    cases rr; obtain ⟨t, rfl⟩ := r
    refine call_enumerate_str fun h' he hit hsz hk => wpAny_pyIter_enum he ?_
    have I2 : Inv X pins σ H1 { s1 with heap := h' } := I1.kept (t' := s1.toks) hk
    refine ⟨s1.heap.objs.size + 1, [s1.heap.objs.size + 1, s1.heap.objs.size], _, _, H1, rfl, I2, turn_enumS x t (s1.heap.objs.size + 1) s1.heap.objs.size, ⟨⟨.none, he⟩, hit, Nat.succ_ne_self _⟩, fun b hb => ?_, q⟩
    have hle : s1.heap.objs.size ≤ b := by
      have eb : b = s1.heap.objs.size + 1 ∨ b = s1.heap.objs.size := by simpa using hb
      rcases eb with y | y <;> rw [y]
      · exact Nat.le_add_right _ _
      · exact Nat.le_refl _
    exact I1.fpOk hle (I1.hok.fresh hle)
theorem for_enumS {x : Str} {g : TG} {tb : TS} {D : Ends} {σ : L2.St} {H : Hp} (Pv : Nat → L2.St → Hp → Prop) (h0 : Pv 0 σ H)
    (hs : ∀ (i c : Nat) (T : Addr) (σ : L2.St) (H : Hp), x.cps[i]? = some c → Pv i σ H → H T = none → g (.ref T) σ (upd H T (.tup [.int (i : Nat), .str ⟨#[c]⟩])) fun σ2 H2 => tb { D with nx := Pv (i + 1), ct := Pv (i + 1), bk := D.nx } σ2 H2) (hd : ∀ σ H, Pv x.cps.size σ H → D.nx σ H) :
    ∃ W : Nat → Nat → L2.St → Hp → Prop, (∃ m, W 0 m σ H) ∧ ∀ i m σ H, W i m σ H →
      ((IteS x).stop i H ∧ D.nx σ H) ∨ ((IteS x).go i H ∧ ∃ N : L2.St → Hp → Prop, (∀ σ' H', N σ' H' → ∃ m', m' < m ∧ W (i + 1) m' σ' H') ∧ ∀ v H', (IteS x).yld i H v H' → g v σ H' fun σ2 H2 => tb { D with nx := N, ct := N, bk := D.nx } σ2 H2) := by
  refine ⟨fun i m σ H => m = x.cps.size - i ∧ i ≤ x.cps.size ∧ Pv i σ H, ⟨x.cps.size, rfl, Nat.zero_le _, h0⟩, fun i m σ H => ?_⟩
  rintro ⟨rfl, hi, p⟩
  by_cases hlt : i < x.cps.size
  · refine .inr ⟨hlt, Pv (i + 1), fun σ' H' p' => ⟨x.cps.size - (i + 1), by omega, rfl, hlt, p'⟩, fun v H' y => ?_⟩
    obtain ⟨T, c, rfl, hT, rfl, f1⟩ := y
    exact hs i c T σ H f1 p hT
  · obtain rfl : i = x.cps.size := by omega
    exact .inl ⟨rfl, hd σ H p⟩
/-! ### zip(text, text) -/
def ItzS (x y : Str) : It :=
  ⟨fun i H => i < x.cps.size ∧ i < y.cps.size, fun i H v H' => ∃ T c d, v = .ref T ∧ H T = none ∧ H' = upd H T (.tup [.str ⟨#[c]⟩, .str ⟨#[d]⟩]) ∧ x.cps[i]? = some c ∧ y.cps[i]? = some d,
    fun i H => i ≤ x.cps.size ∧ i ≤ y.cps.size ∧ (i = x.cps.size ∨ i = y.cps.size)⟩
theorem turn_zipS {P : Program} {w : World} {K : PySem.W.Frag} {elts : List Expr} {kk : Nat} {tpos : Pos} (x y : Str) (t1 t2 : Tok) {z TI TO i1 i2 : Addr} (S : ZipSep2 z TI TO i1 i2 [i1] [i2]) :
    Turn P w K (.Tuple elts kk tpos) (ItzS x y) [z, TI, TO, i1, i2] z (fun i h => IsZip h z TI TO .none ∧ IsTupOf2 h TI (.ref i1) (.ref i2) ∧ (∃ a b, IsTupOf2 h TO a b) ∧ h.IsStrIter i1 (strIterType x) x t1 i ∧ h.IsStrIter i2 (strIterType y) y t2 i) where
  mem := by simp
  obj := fun i h st c hc => by
    obtain ⟨hz, hTI, ⟨a, b, hTO⟩, ⟨o1, e1, _, d1⟩, ⟨o2, e2, _, d2⟩⟩ := st
    have e' : c = z ∨ c = TI ∨ c = TO ∨ c = i1 ∨ c = i2 := by simpa using hc
    rcases e' with q | q | q | q | q
    · rw [q]; exact ⟨_, hz, fun v q => nomatch q⟩
    · rw [q]; exact ⟨_, hTI, fun v q => nomatch q⟩
    · rw [q]; exact ⟨_, hTO, fun v q => nomatch q⟩
    · rw [q]; exact ⟨o1, e1, fun v q => by rw [d1] at q; cases q⟩
    · rw [q]; exact ⟨o2, e2, fun v q => by rw [d2] at q; cases q⟩
  keep := fun i h h' st k => by
    obtain ⟨hz, hTI, ⟨a, b, hTO⟩, ⟨o1, e1, r1⟩, ⟨o2, e2, r2⟩⟩ := st
    exact ⟨k z (by simp) _ hz, k TI (by simp) _ hTI, ⟨a, b, k TO (by simp) _ hTO⟩, ⟨o1, k i1 (by simp) o1 e1, r1⟩, ⟨o2, k i2 (by simp) o2 e2, r2⟩⟩
  item := by
    intro X hP hw hK hc i pins s σ H E I hf st hg
    subst hP hw hK
    obtain ⟨hz, hTI, ⟨a0, b0, hTO⟩, h1, h2⟩ := st
    obtain ⟨hlt1, hlt2⟩ := hg
    have hzl : z < s.heap.objs.size := Heap.lt_size hz
    have hd0 : X.A.in1.handled = none := I.ok.hd hc
    refine wpAny_pyNext_zipD2_item S (Draws.text hd0 i1 x t1) (Draws.text hd0 i2 y t2) hz hTI hTO h1 h2 hlt1 hlt2 fun x1 x2 h' tk p1 p2 z' TO' h1' h2' hT hsz hk => ?_
    obtain ⟨c, u, hx, rfl⟩ := p1
    obtain ⟨d, u2, hy, rfl⟩ := p2
    refine ⟨_, rfl, wpAny_letOwnedTupleGo_zip (s := { s with heap := h', toks := tk }) z' fun h'' z'' sb => ?_⟩
    have hT2 : h''.get? s.heap.objs.size = some { cls := .type "tuple", data := .seq #[.str ⟨#[c]⟩ u, .str ⟨#[d]⟩ u2] } := (sb.2 _ (Nat.ne_of_gt hzl)).trans hT
    have new : ObjOk X.prog X.w (upd H s.heap.objs.size (.tup [.str ⟨#[c]⟩, .str ⟨#[d]⟩])) h'' s.heap.objs.size (.tup [.str ⟨#[c]⟩, .str ⟨#[d]⟩]) :=
      ⟨by show 2 ≤ sizeLine; decide, [.str ⟨#[c]⟩ u, .str ⟨#[d]⟩ u2], .cons ⟨_, rfl⟩ (.cons ⟨_, rfl⟩ .nil), ⟨_, hT2, rfl, _, rfl⟩⟩
    have I1 : Inv X pins σ (upd H s.heap.objs.size (.tup [.str ⟨#[c]⟩, .str ⟨#[d]⟩])) { s with heap := h'', toks := tk } :=
      I.turnedNew (ch := [z, TI, TO, i1, i2]) (fun c o hb q => (sb.2 c (fun q' => hb (by simp [q']))).trans (hk c o (fun q' => hb (by simp [q'])) (fun q' => hb (by simp [q'])) (fun q' => hb (by simp [q'])) (fun q' => hb (by simp [q'])) q)) hf (Nat.le_refl _) new
    refine ⟨.ref s.heap.objs.size, _, I1, rfl, ⟨_, c, d, rfl, I.hok.fresh (Nat.le_refl _), rfl, hx, hy⟩, ⟨z'', ?_, ⟨.str ⟨#[c]⟩ u, .str ⟨#[d]⟩ u2, ?_⟩, ?_, ?_⟩, fun c hcm => ?_⟩
    · exact (sb.2 _ S.TIz).trans (hk _ _ S.TIz S.TITO S.TIi1 S.TIi2 hTI)
    · exact (sb.2 _ S.TOz).trans TO'
    · obtain ⟨o, q, r⟩ := h1'
      exact ⟨o, (sb.2 _ (Ne.symm S.zi1)).trans q, r⟩
    · obtain ⟨o, q, r⟩ := h2'
      exact ⟨o, (sb.2 _ (Ne.symm S.zi2)).trans q, r⟩
    · have hlt : c < s.heap.objs.size := by
        have e' : c = z ∨ c = TI ∨ c = TO ∨ c = i1 ∨ c = i2 := by simpa using hcm
        rcases e' with q | q | q | q | q
        · rw [q]; exact hzl
        · rw [q]; exact Heap.lt_size hTI
        · rw [q]; exact Heap.lt_size hTO
        · rw [q]; obtain ⟨_, e1, _⟩ := h1; exact Heap.lt_size e1
        · rw [q]; obtain ⟨_, e2, _⟩ := h2; exact Heap.lt_size e2
      rw [upd_ne (Nat.ne_of_lt hlt)]
      exact (hf c hcm).1
  done := by
    intro X hP hw hK hc i pins s σ H E I hf st hg
    subst hP hw hK
    obtain ⟨hz, hTI, ⟨a0, b0, hTO⟩, h1, h2⟩ := st
    obtain ⟨l1, l2, hend⟩ := hg
    have hd0 : X.A.in1.handled = none := I.ok.hd hc
    exact wpAny_pyNext_zipD2_end S (Draws.text hd0 i1 x t1) (Draws.text hd0 i2 y t2) hz hTI hTO h1 h2 l1 l2 hend fun h' tk hk => ⟨rfl, I.turnedL (t' := tk) (ch := [z, TI, TO, i1, i2]) (fun c o hb q =>
      hk c o (fun q' => hb (by simp [q'])) (fun q' => hb (by simp [q'])) (fun q' => hb (by simp [q'])) (fun q' => hb (by simp [q'])) q) hf⟩
  self := fun A i s Q E st h => wpAny_pyIter_zip st.1 h
def iZipS (ta : TA) : TI := fun σ H R => ta σ H fun vs H1 => ∃ x y, vs = [.str x, .str y] ∧ R (ItzS x y) H1
theorem pi_zipS {X : Cx} {e e2 : Expr} {ta : TA} {p pos tpos : Pos} {elts : List Expr} {kk : Nat} (hg : Gl X "zip") (hm : X.mg "zip" = none) (ha : PA X [e, e2] ta)
    (hs : starEach [e, e2] X.env = (false, eval e X.env) :: starEach [e2] X.env := by rfl) (hpl : (backTo pos (starEach [e2] X.env)).any (·.1) = false := by rfl) :
    PI X (.Tuple elts kk tpos) (.Call (.Name "zip" p) [e, e2] [] pos) (iZipS ta) := by
  refine ⟨fun pins s σ H R I h => ?_⟩
  refine Call_ (ld_blt I hg hm PyProof.Rows.boot_zip (PyProof.Rows.callWith_type1 (thn (ha.run pos pins s σ H _ I h) fun us s1 ⟨vs, H1, I1, r1, q1⟩ => ?_) hs hpl))
  obtain ⟨x, y, rfl, q⟩ := q1
  cases r1 with
  | cons r rr =>
    cases rr with
    | cons r' rr =>
      cases rr
      obtain ⟨t1, rfl⟩ := r
      obtain ⟨t2, rfl⟩ := r'
      have fresh5 : ∀ c, c ∈ [s1.heap.objs.size + 4, s1.heap.objs.size + 2, s1.heap.objs.size + 3, s1.heap.objs.size, s1.heap.objs.size + 1] → FpOk X pins H1 c := fun c hcm => by
        have e' : c = s1.heap.objs.size + 4 ∨ c = s1.heap.objs.size + 2 ∨ c = s1.heap.objs.size + 3 ∨ c = s1.heap.objs.size ∨ c = s1.heap.objs.size + 1 := by simpa using hcm
        have hle : s1.heap.objs.size ≤ c := by
          rcases e' with z | z | z | z | z
          · rw [z]; exact Nat.le_add_right _ _
          · rw [z]; exact Nat.le_add_right _ _
          · rw [z]; exact Nat.le_add_right _ _
          · rw [z]; exact Nat.le_refl _
          · rw [z]; exact Nat.le_add_right _ _
        exact I1.fpOk hle (I1.hok.fresh hle)
      refine zip_begins2 (begins_text x t1) (begins_text y t2) trivial trivial fun h' hz hTI hTO g1 g2 hsz hk => wpAny_pyIter_zip hz ?_
      have I2 : Inv X pins σ H1 { s1 with heap := h' } := I1.kept (t' := s1.toks) hk
      refine ⟨s1.heap.objs.size + 4, [s1.heap.objs.size + 4, s1.heap.objs.size + 2, s1.heap.objs.size + 3, s1.heap.objs.size, s1.heap.objs.size + 1], _, _, H1, rfl, I2, turn_zipS x y t1 t2 ?_, ⟨hz, hTI, ⟨_, _, hTO⟩, ⟨_, g1, rfl, rfl⟩, ⟨_, g2, rfl, rfl⟩⟩, fresh5, q⟩
      constructor <;> simp
theorem for_zipS {x y : Str} {g : TG} {tb : TS} {D : Ends} {σ : L2.St} {H : Hp} (n : Nat) (hn : n = min x.cps.size y.cps.size) (Pv : Nat → L2.St → Hp → Prop) (h0 : Pv 0 σ H)
    (hs : ∀ (i c d : Nat) (T : Addr) (σ : L2.St) (H : Hp), i < n → x.cps[i]? = some c → y.cps[i]? = some d → Pv i σ H → H T = none → g (.ref T) σ (upd H T (.tup [.str ⟨#[c]⟩, .str ⟨#[d]⟩])) fun σ2 H2 => tb { D with nx := Pv (i + 1), ct := Pv (i + 1), bk := D.nx } σ2 H2) (hd : ∀ σ H, Pv n σ H → D.nx σ H) :
    ∃ W : Nat → Nat → L2.St → Hp → Prop, (∃ m, W 0 m σ H) ∧ ∀ i m σ H, W i m σ H →
      ((ItzS x y).stop i H ∧ D.nx σ H) ∨ ((ItzS x y).go i H ∧ ∃ N : L2.St → Hp → Prop, (∀ σ' H', N σ' H' → ∃ m', m' < m ∧ W (i + 1) m' σ' H') ∧ ∀ v H', (ItzS x y).yld i H v H' → g v σ H' fun σ2 H2 => tb { D with nx := N, ct := N, bk := D.nx } σ2 H2) := by
  refine ⟨fun i m σ H => m = n - i ∧ i ≤ n ∧ Pv i σ H, ⟨n, rfl, Nat.zero_le _, h0⟩, fun i m σ H => ?_⟩
  rintro ⟨rfl, hi, p⟩
  by_cases hlt : i < n
  · refine .inr ⟨⟨by omega, by omega⟩, Pv (i + 1), fun σ' H' p' => ⟨n - (i + 1), by omega, rfl, hlt, p'⟩, fun v H' y => ?_⟩
    obtain ⟨T, c, d, rfl, hT, rfl, f1, f2⟩ := y
    exact hs i c d T σ H hlt f1 f2 p hT
  · obtain rfl : i = n := by omega
    exact .inl ⟨⟨by omega, by omega, by omega⟩, hd σ H p⟩
theorem for_enumL {K : PySem.W.Frag} {a : Addr} {xs : List V} {g : TG} {tb : TS} {D : Ends} {σ : L2.St} {H : Hp} (Pv : Nat → L2.St → Hp → Prop) (h0 : Pv 0 σ H) (hq : ∀ i σ H, Pv i σ H → SqL K H a xs)
    (hs : ∀ (i : Nat) (x : V) (T : Addr) (σ : L2.St) (H : Hp), xs[i]? = some x → Pv i σ H → H T = none → g (.ref T) σ (upd H T (.tup [.int (i : Nat), x])) fun σ2 H2 => tb { D with nx := Pv (i + 1), ct := Pv (i + 1), bk := D.nx } σ2 H2) (hd : ∀ σ H, Pv xs.length σ H → D.nx σ H) :
    ∃ W : Nat → Nat → L2.St → Hp → Prop, (∃ m, W 0 m σ H) ∧ ∀ i m σ H, W i m σ H →
      ((Ite K a).stop i H ∧ D.nx σ H) ∨ ((Ite K a).go i H ∧ ∃ N : L2.St → Hp → Prop, (∀ σ' H', N σ' H' → ∃ m', m' < m ∧ W (i + 1) m' σ' H') ∧ ∀ v H', (Ite K a).yld i H v H' → g v σ H' fun σ2 H2 => tb { D with nx := N, ct := N, bk := D.nx } σ2 H2) := by
  refine ⟨fun i m σ H => m = xs.length - i ∧ i ≤ xs.length ∧ Pv i σ H, ⟨xs.length, rfl, Nat.zero_le _, h0⟩, fun i m σ H => ?_⟩
  rintro ⟨rfl, hi, p⟩
  have qx := hq i σ H p
  by_cases hlt : i < xs.length
  · refine .inr ⟨⟨xs, _, qx, List.getElem?_eq_getElem hlt⟩, Pv (i + 1), fun σ' H' p' => ⟨xs.length - (i + 1), by omega, rfl, hlt, p'⟩, fun v H' y => ?_⟩
    obtain ⟨T, x', rfl, hT, rfl, f1⟩ := y
    exact hs i x' T σ H (f1 xs qx) p hT
  · obtain rfl : i = xs.length := by omega
    exact .inl ⟨⟨xs, qx, Nat.le_refl _⟩, hd σ H p⟩
end RJ

set_option maxRecDepth 100000
set_option maxHeartbeats 2000000
namespace RO
open PySem PySem.Spec PyProof.Rows L2 ItX
/-! ### a def whose promise knows how large the heap was -/
structure FnN (P : Program) (w : World) (K : PySem.W.Frag) (mg : Str → Option Value) (base : Heap) (CX : CXT) (k : Nat) (f : Addr) (fd : FuncData) (ps : List Str) (sp : Nat → Sp) : Prop where
  len : ∀ n vs H Q E, sp n vs H Q E → vs.length = ps.length
  run : ∀ (A : Around) (outer : List Env) (s : Shared) (H : Hp) (args : Args) (us : List Value) (vs : List V) (Q : VK) (E : XK), Room k A → Env0 P w K mg base A outer s H → BindsTo s fd args (ps.zip us) → Vals vs us → sp s.heap.objs.size vs H Q E →
    codeAny (model P w) A (.call (.ref f) args) (CR CX outer P w H s Q E) s
theorem fn_ofN {CX : CXT} {P : Program} {w : World} {K : PySem.W.Frag} {mg : Str → Option Value} {base : Heap} {k : Nat} {f : Addr} {name qual : Str} {params : Arguments} {body : List Stmt} {scope : Scope} {dV kV doc pm cdv ct oc : Value} {an od : Option Addr}
    {osl : Array (Option Value)} {N ps : List Str} {sp : Nat → Sp} (lk : K.lookup f = some ⟨oc, od, .func (PySem.W.fnOf name qual params body scope dV kV doc pm an cdv ct), osl⟩) (hcd : PySem.W.codeIn K cdv qual = true) (S : FnScope N ps scope)
    (len : ∀ n vs H Q E, sp n vs H Q E → vs.length = ps.length)
    (hbody : ∀ (A : Around) (outer : List Env) (s : Shared) (H : Hp) (vs : List V) (Q : VK) (E : XK), Room k (A.deeper (envOfC qual scope s.heap.objs.size f cdv)) → sp s.heap.objs.size vs H Q E →
      ∃ t, PSs (cxOf CX P w K mg base N qual scope f cdv A outer s H E) body t ∧ t { nx := fun _ H' => Q .non H', rt := Q } (start N vs) H) :
    FnN P w K mg base CX (k + 1) f (PySem.W.fnOf name qual params body scope dV kV doc pm an cdv ct) ps sp := by
  refine ⟨len, fun A outer s H args us vs Q E hr e0 hb r hsp => ?_⟩
  have hl := len _ _ _ _ _ hsp
  have KX : K.In s.heap := e0.mod.kin.keeps fun b o e => (e0.bs b o e).1
  have lim : s.heap.NoLimit := e0.mod.nolimit.keeps fun b o e => (e0.bs b o e).1
  have hkind : ∀ y ∈ ps.zip us, scope.names.lookup y.1 = some .local ∨ (scope.names.lookup y.1 = some .cell ∧ ((cellsFrom (s.heap.objs.size + 1) scope.names []).lookup y.1).isSome = true) := fun ⟨n, v⟩ hy => by
    rcases S.par n (List.of_mem_zip hy).1 with q | q
    · exact .inl q
    · exact .inr ⟨q, PySem.W.cellsFrom_some _ _ _ (.inl q)⟩
  refine codeAny_call_function hr.depth (KX _ _ lk) rfl S.co S.gen rfl (PySem.W.codeRec_of KX hcd) (hb _ _ _ _ ?_)
  refine wpAny_newFunctionEnv_cells S.kind hkind fun env he s1 x => ?_
  subst he
  refine ⟨lim.keeps x.toInCall.keep, codeAny_func ?_⟩
  obtain ⟨t, ht, hq⟩ := hbody A outer s H vs Q E (hr.deeper _) hsp
  have I : Inv (cxOf CX P w K mg base N qual scope f cdv A outer s H E) [] (start N vs) H s1 := inv_start S hr.hd e0 hl r x
  refine wpAny_mono (ht.run [] s1 (start N vs) H _ I hq) (fun fl s' hs => ?_) fun e s' hs => hs
  have fin : ∀ {σ' : L2.St} {H' : Hp} {v : V} {u : Value}, Inv (cxOf CX P w K mg base N qual scope f cdv A outer s H E) [] σ' H' s' → RelV v u → Q v H' → CE outer P w H s Q u s' :=
    fun {σ' H' v u} J rv q => ⟨v, H', J.os, J.bare, J.base, J.hok, rv, q⟩
  cases fl with
  | ret u =>
    obtain ⟨v, σ', H', J, rv, q⟩ := hs
    exact fin J rv q
  | next =>
    obtain ⟨σ', H', J, q⟩ := hs
    exact fin (v := V.non) (u := Value.none) J rfl q
  | brk =>
    obtain ⟨_, _, _, q⟩ := hs
    exact False.elim q
  | cont =>
    obtain ⟨_, _, _, q⟩ := hs
    exact False.elim q
section
variable {P : Program} {w : World} {K : PySem.W.Frag} {mg : Str → Option Value} {base : Heap}
theorem fun_okN {x qual : Str} {st : Stmt} {f : Addr} {fd : FuncData} {N ps : List Str} {k : Nat} {sp : Nat → Sp} (F : Fun K x qual st f fd) (S : FnScope N ps (defScope st)) (len : ∀ n vs H Q E, sp n vs H Q E → vs.length = ps.length)
    (hbody : ∀ (cdv : Value) (A : Around) (outer : List Env) (s : Shared) (H : Hp) (vs : List V) (Q : VK) (E : XK), Room k (A.deeper (envOfC qual (defScope st) s.heap.objs.size f cdv)) → sp s.heap.objs.size vs H Q E →
      ∃ t, PSs (cxOf CX0 P w K mg base N qual (defScope st) f cdv A outer s H E).nox (defBody st) t ∧ t { nx := fun _ H' => Q .non H', rt := Q } (start N vs) H) : FnN P w K mg base CX0 (k + 1) f fd ps sp := by
  obtain ⟨oc, od, kV, doc, pm, an, cdv, ct, osl, rfl, lk, hcd⟩ := F.ex
  refine fn_ofN lk hcd S len fun A outer s H vs Q E hr hsp => ?_
  obtain ⟨t, h, q⟩ := hbody cdv A outer s H vs Q E hr hsp
  exact ⟨t, h.nox, q⟩
end
/-- __iter__ hands back a new iterator over the list in a field -/
def spIt (C : Addr) (fld : Str) (n : Nat) : Sp := fun vs H Q _ => ∃ (p dx l : Addr) (fs : List (Str × V)), vs = [.ref p] ∧ H p = some (.ins C dx fs) ∧ fs.lookup fld = some (.ref l) ∧ (∃ zs, H l = some (.lst zs)) ∧ ∀ it, H it = none → n ≤ it → Q (.ref it) (upd H it (ItO l it 0))
/-- what a class with such an __iter__ has -/
structure ItrC (X : Cx) (C fi : Addr) (fdI : FuncData) (fld : Str) (k : Nat) : Prop where
  it : PySem.W.findIn X.K (.ref C) "__iter__" = some (some (.ref fi))
  itF : PySem.W.isFn X.K (.ref fi) = true
  fn : FnN X.prog X.w X.K X.mg X.base CX0 k fi fdI ["self"] (spIt C fld)
  bi : Binds X.K fdI ["self"] []
section
variable {X : Cx} {pins : List (Addr × Obj)} {σ : L2.St} {H : Hp} {s : Shared} {A1 : Around} {C fi fl p dx l : Addr} {fdI fdL : FuncData} {fld : Str} {k : Nat} {fs : List (Str × V)} {zs : List V}
theorem env_sub (I : Inv X pins σ H s) (sb : Sub X k A1) : Env0 X.prog X.w X.K X.mg X.base A1 X.stack s H := by
  have e := I.env0
  exact ⟨by rw [sb.fr]; exact e.frames, e.mod, e.bs, e.bsz, e.funs, e.frf, e.hok, e.bare⟩
/-- iter(o) -/
theorem own_iter {Q : Value → Shared → Prop} (sb : Sub X k A1) (c : ItrC X C fi fdI fld k) (I : Inv X pins σ H s) (hp : H p = some (.ins C dx fs)) (hf : fs.lookup fld = some (.ref l)) (hl : H l = some (.lst zs))
    (h : ∀ it s', H it = none → s.heap.objs.size ≤ it → s'.heap.IsListIter it l 0 → s'.heap.get? it = some (GNX.itObj l 0) → Inv X pins σ H s' → Q (.ref it) s') : wpAny (model X.prog X.w) A1 (pyIter (.ref p)) Q X.xe s := by
  obtain ⟨mA, J, _⟩ := ins_get I.hok hp
  obtain ⟨od, J, _⟩ := J.look
  obtain ⟨m0, hF⟩ := I.fr
  refine PySem.W.owit_iter hF I.ok.mod.kin J c.it c.itF ?_
  have hsp : spIt C fld s.heap.objs.size [.ref p] H (fun v H' => ∃ it, v = .ref it ∧ H it = none ∧ s.heap.objs.size ≤ it ∧ H' = upd H it (ItO l it 0)) E0 := ⟨p, dx, l, fs, rfl, hp, hf, ⟨zs, hl⟩, fun it h1 h2 => ⟨it, rfl, h1, h2, rfl⟩⟩
  have r2 : Vals [V.ref p] [Value.ref p] := .cons rfl .nil
  refine wpAny_call (codeAny_mono (c.fn.run A1 X.stack s H ⟨[.ref p], []⟩ [.ref p] [.ref p] _ E0 sb.room (env_sub I sb) (by
    have := c.bi s [.ref p] I.kIn rfl
    simpa using this) r2 hsp) fun r s' hq => ?_)
  cases r with
  | error e => exact absurd hq (fun z => z.elim)
  | ok fl =>
    cases fl with
    | next => exact False.elim hq
    | brk => exact False.elim hq
    | cont => exact False.elim hq
    | ret u =>
      obtain ⟨v, H', I', rv, it, rfl, hn, hsz, rfl⟩ := I.after hq
      cases rv
      have eo := itO_get I' upd_same
      have I2 := inv_drop I' (show upd H it (ItO l it 0) it = some (.ext _) from upd_same)
      rw [dropH_upd hn] at I2
      have hT : s'.TypeIs (.ref it) "list_iterator" := ⟨_, eo, rfl⟩
      unfold PySem.W.OwitIt
      exact wpAny_specialOf (name := Str.ofString "__next__") hT slot_listiter_next.lookup (h it s' hn hsz ⟨_, eo, rfl, rfl⟩ eo I2)
/-- len(o) by an own __len__ that only tells -/
theorem own_len {Q : Value → Shared → Prop} {E' : Value → Shared → Prop} {sp : Sp} {m : Nat} (sb : Sub X k A1.in1) (hlen : PySem.W.findIn X.K (.ref C) "__len__" = some (some (.ref fl))) (hf : PySem.W.typeIn X.K (.ref fl) = some (.type "function")) (F : FnOk X.prog X.w X.K X.mg X.base CX0 k fl fdL ["self"] sp) (b : Binds X.K fdL ["self"] [])
    (I : Inv X pins σ H s) (hp : H p = some (.ins C dx fs)) (hm : m ≤ sizeLine) (hsp : sp [.ref p] H (fun v H' => v = .int (m : Int) ∧ H' = H) E0)
    (h : ∀ t s', Inv X pins σ H s' → Q (.int (m : Int) t) s') : wpAny (model X.prog X.w) A1 (call (.builtin "len") [.ref p]) Q E' s := by
  obtain ⟨mA, J, _⟩ := ins_get I.hok hp
  obtain ⟨od, J, _⟩ := J.look
  refine Calls.call_function_entry kind_len plain_len entry_len (args_len1 _) ?_
  unfold Builtin.«len»
  refine wpAny_bind (m := oneArg "len" _) (wpAny_pure ?_)
  have r2 : Vals [V.ref p] [Value.ref p] := .cons rfl .nil
  refine wpAny_bind (m := callSpecial? (.ref p) (PySem.Str.ofString "__len__")) (PySem.W.special_fn I.kIn J hlen hf ?_)
  refine wpAny_call (codeAny_mono (F.run A1.in1 X.stack s H ⟨[.ref p], []⟩ [.ref p] [.ref p] _ E0 sb.room (env_sub I sb) (by
    have := b s [.ref p] I.kIn rfl
    simpa using this) r2 hsp) fun r s' hq => ?_)
  cases r with
  | error e => exact absurd hq (fun z => z.elim)
  | ok fl =>
    cases fl with
    | next => exact False.elim hq
    | brk => exact False.elim hq
    | cont => exact False.elim hq
    | ret u =>
      obtain ⟨v, H', I', rv, rfl, rfl⟩ := I.after hq
      obtain ⟨t, rfl⟩ := rv
      have hs : sizeLine = 16777216 := sizeLine_eq
      refine wpAny_bind (wpAny_holding (wpAny_pure ?_))
      refine wpAny_bind (wpAny_letGo ?_)
      show wpAny _ _ (if ((m : Nat) : Int) < 0 then _ else _) _ _ _
      rw [if_neg (by omega)]
      show wpAny _ _ (if ((m : Nat) : Int) ≥ 2 ^ 63 then _ else _) _ _ _
      rw [if_neg (by omega)]
      exact wpAny_bind (wpAny_mkInt (wpAny_pure ⟨_, rfl, h _ _ (I'.tok _)⟩))
end
section
variable {X : Cx} {C fi fl : Addr} {fdI fdL : FuncData} {fld : Str} {k : Nat}
/-! ### for x in o -/
def iOwnL (C : Addr) (fld : Str) (K : PySem.W.Frag) (te : TE) : TI := fun σ H R => te σ H fun v H1 => ∃ (p dx l : Addr) (fs : List (Str × V)) (zs : List V), v = .ref p ∧ H1 p = some (.ins C dx fs) ∧ fs.lookup fld = some (.ref l) ∧ H1 l = some (.lst zs) ∧ R (Itl K l) H1
theorem pi_ownL {tg e : Expr} {te : TE} (c : ItrC X C fi fdI fld k) (hr : Room k X.A) (he : PE X e te) : PI X tg e (iOwnL C fld X.K te) := by
  refine ⟨fun pins s σ H R I h => ?_⟩
  refine thn (he.run pins s σ H _ I h) fun v s1 ⟨y, H1, I1, ry, p, dx, l, fs, zs, ey, hp, hf, hl, q⟩ => ?_
  subst ey
  cases ry
  refine own_iter (⟨hr, rfl⟩ : Sub X k X.A) c I1 hp hf hl fun it s' hn hsz hli eo I' => ?_
  exact ⟨it, [it], _, _, H1, rfl, I', turn_list l it, hli, fun b hb => by rw [List.mem_singleton.mp hb]; exact I1.fpOk hsz hn, q⟩
/-! ### len(o) -/
theorem call_lenOwn {sp : Sp} (hlen : PySem.W.findIn X.K (.ref C) "__len__" = some (some (.ref fl))) (hf : PySem.W.typeIn X.K (.ref fl) = some (.type "function")) (F : FnOk X.prog X.w X.K X.mg X.base CX0 k fl fdL ["self"] sp) (b : Binds X.K fdL ["self"] []) (hr : Room (k + 1) X.A) :
    CallR X (.builtin "len") (fun xs H Q => ∃ (p dx : Addr) (fs : List (Str × V)) (m : Nat), xs = [.ref p] ∧ H p = some (.ins C dx fs) ∧ m ≤ sizeLine ∧ sp [.ref p] H (fun v H' => v = .int (m : Int) ∧ H' = H) E0 ∧ Q (.int (m : Int)) H) := by
  intro pins s σ H xs us Q I r h
  obtain ⟨p, dx, fs, m, rfl, hp, hm, hsp, q⟩ := h
  obtain ⟨u, rfl, ru⟩ := vals1 r
  obtain rfl : u = Value.ref p := ru
  exact own_len (Sub.in1 (⟨hr, rfl⟩ : Sub X (k + 1) X.A)) hlen hf F b I hp hm hsp fun t s' I' => ⟨.int (m : Int), H, I', ⟨_, rfl⟩, q⟩
end
end RO

set_option maxRecDepth 100000
set_option maxHeartbeats 2000000
namespace RO
open PySem PySem.Spec PyProof.Rows L2 ItX
/-! ### list(o) -/
/-- what a class with an own __iter__ and __len__ has -/
structure LenC (X : Cx) (C fl : Addr) (fdL : FuncData) (sp : Sp) (k : Nat) : Prop where
  at_ : PySem.W.findIn X.K (.ref C) "__len__" = some (some (.ref fl))
  ty : PySem.W.typeIn X.K (.ref fl) = some (.type "function")
  fn : FnOk X.prog X.w X.K X.mg X.base CX0 k fl fdL ["self"] sp
  bi : Binds X.K fdL ["self"] []
section
variable {X : Cx} {pins : List (Addr × Obj)} {σ : L2.St} {H : Hp} {s : Shared} {A1 : Around} {C fi fl p dx l q it : Addr} {fdI fdL : FuncData} {fld : Str} {k : Nat} {fs : List (Str × V)} {zs : List V}
theorem ext_loop {Rs : Result → Shared → Prop} (hh : A1.in1.handled = none) (nql : l ≠ q) (hl : H l = some (.lst zs)) (hsz : zs.length < sizeLine) (hq0 : H q = some (.lst []))
    (hdone : ∀ s, Inv X pins σ (upd H q (.lst zs)) s → Rs (.ok (.ret .none)) s) :
    ∀ (n i : Nat) (s : Shared), n + i = zs.length → Inv X pins σ (upd H q (.lst (zs.take i))) s → s.heap.IsListIter it l i → FpOk X pins H it →
      codeAny (model X.prog X.w) A1 (.builtin "list.extend.loop" ⟨[.ref q, .ref it, .none], []⟩) Rs s := by
  intro n
  induction n with
  | zero =>
    intro i s hi I st fp
    refine codeAny_builtin PySem.F.entry_extend_loop ?_
    rw [Around.under_plainId PySem.F.plain_extend_loop _]
    show wpAny _ A1.in1 (pyNext (.ref it) >>= _) _ _ s
    have hl' : upd H q (.lst (zs.take i)) l = some (.lst zs) := by rw [upd_ne nql]; exact hl
    obtain ⟨its, rv, pl, _⟩ := I.list (SqL.of (K := X.K) hl')
    have hlen := rv.length
    obtain ⟨f0, f1, f2, f3, f4, f5⟩ := fp
    have niq : it ≠ q := fun e => by rw [e, hq0] at f0; cases f0
    have e1 : zs.take i = zs := List.take_of_length_le (by omega)
    refine wpAny_bind (wpAny_pyNext_list_end hh st pl.isList (by simp; omega) fun h' eb => ?_)
    rw [e1] at I
    have I' : Inv X pins σ (upd H q (.lst zs)) { s with heap := h' } := I.turned (t' := s.toks) (fun b o hb e => eb b o hb e) (by rw [upd_ne niq]; exact f0) f1 f3 f4 f5
    exact wpAny_pure (hdone _ I')
  | succ n ih =>
    intro i s hi I st fp
    refine codeAny_builtin PySem.F.entry_extend_loop ?_
    rw [Around.under_plainId PySem.F.plain_extend_loop _]
    show wpAny _ A1.in1 (pyNext (.ref it) >>= _) _ _ s
    have hl' : upd H q (.lst (zs.take i)) l = some (.lst zs) := by rw [upd_ne nql]; exact hl
    obtain ⟨its, rv, pl, _⟩ := I.list (SqL.of (K := X.K) hl')
    have hlen := rv.length
    obtain ⟨f0, f1, f2, f3, f4, f5⟩ := id fp
    have niq : it ≠ q := fun e => by rw [e, hq0] at f0; cases f0
    have hv : zs[i]? = some (zs[i]'(by omega)) := List.getElem?_eq_getElem _
    obtain ⟨u, hu, ru⟩ := rv.get hv
    refine wpAny_bind (wpAny_pyNext_list_item st pl.isList (x := u) (by simpa using hu) fun h' st' sb => ?_)
    have I1 : Inv X pins σ (upd H q (.lst (zs.take i))) { s with heap := h' } := I.turned (t' := s.toks) (fun b o hb e => (sb.2 b hb).trans e) (by rw [upd_ne niq]; exact f0) f1 f3 f4 f5
    show wpAny _ A1.in1 (updateSeq q (·.push u) >>= _) _ _ _
    obtain ⟨z, its2, kk, r2, hl2, e2⟩ := I1.lstM upd_same
    refine wpAny_bind (wpAny_updateSeq e2 rfl (wpAny_pure ⟨plainId_quiet PySem.F.plain_extend_loop _, ?_⟩) (by rw [List.size_toArray, ← hl2, List.length_take]; omega) (by show (its2.toArray.push u).size ≤ sizeLine + 1; rw [Array.size_push, List.size_toArray, ← hl2, List.length_take]; omega))
    have e3 : zs.take (i + 1) = zs.take i ++ [zs[i]'(by omega)] := by rw [List.take_add_one, hv]; rfl
    have I2 := I1.lset (f := (·.push u)) (its' := its2 ++ [u]) (ys := zs.take (i + 1)) (t' := s.toks) upd_same e2 (by simp) (by rw [e3]; exact r2.append (.cons ru .nil)) (by rw [List.length_take]; omega)
    rw [upd_upd] at I2
    refine ih (i + 1) _ (by omega) I2 (st'.at fun o e => ?_) fp
    exact (Heap.get?_update_other _ _ (Ne.symm niq)).trans e
theorem own_extendL {Rs : Result → Shared → Prop} {sp : Sp} {m : Nat} (sb : Sub X (k + 1) A1.in1) (hh : A1.in1.handled = none) (ci : ItrC X C fi fdI fld k) (cl : LenC X C fl fdL sp k) (I : Inv X pins σ H s) (hp : H p = some (.ins C dx fs)) (hf : fs.lookup fld = some (.ref l)) (hl : H l = some (.lst zs)) (hsz : zs.length < sizeLine)
    (hm : m ≤ sizeLine) (hsp : sp [.ref p] H (fun v H' => v = .int (m : Int) ∧ H' = H) E0) (hq : H q = some (.lst [])) (nql : l ≠ q) (hdone : ∀ s, Inv X pins σ (upd H q (.lst zs)) s → Rs (.ok (.ret .none)) s) (herr : ∀ e s, X.xe e s → Rs (.error e) s) :
    wpAny (model X.prog X.w) A1.in1 (Builtin.List.listExtendWith (.ref q) (.ref p) .none)
      (fun fin s' => match fin with | .done f => Rs (.ok f) s' | .again c' => c'.quiet = true ∧ codeAny (model X.prog X.w) A1 c' Rs s') (fun e s' => Rs (.error e) s') s := by
  have hne : q ≠ p := ne_of hq hp (fun z => nomatch z)
  obtain ⟨mA, J, _⟩ := ins_get I.hok hp
  obtain ⟨od, J, _⟩ := J.look
  unfold Builtin.List.listExtendWith
  refine wpAny_bind (J.type.here ?_)
  have h1 : Builtin.List.listSameRef (.ref q) (.ref p) = false := by simp [Builtin.List.listSameRef, hne]
  have h2 : (Value.ref C == Value.type "list") = false := rfl
  have h3 : (Value.ref C == Value.type "tuple") = false := rfl
  simp only [h1, h2, h3, Bool.or_false, Bool.false_eq_true, if_false]
  refine wpAny_bind (wpAny_mono (own_iter (Q := fun v s' => ∃ it, v = .ref it ∧ H it = none ∧ s.heap.objs.size ≤ it ∧ s'.heap.IsListIter it l 0 ∧ s'.heap.get? it = some (GNX.itObj l 0) ∧ Inv X pins σ H s') (sb.mono (Nat.le_succ k)) ci I hp hf hl fun it s' a b c e d => ⟨it, rfl, a, b, c, e, d⟩) (fun v s' hv => ?_) fun e s' he => herr e s' he)
  obtain ⟨it, rfl, hn, hge, st, eo, I'⟩ := hv
  have fp : FpOk X pins H it := I.fpOk hge hn
  have niq : it ≠ q := fun e => by rw [e, hq] at hn; cases hn
  have hint : wpAny (model X.prog X.w) A1.in1 (Builtin.List.listLengthHint (.ref p)) (fun b s2 => Inv X pins σ H s2 ∧ s2.heap.IsListIter it l 0) (fun e s' => Rs (.error e) s') s' := by
    obtain ⟨mA', J', _⟩ := ins_get I'.hok hp
    obtain ⟨od', J', _⟩ := J'.look
    have IP : Inv X ((it, GNX.itObj l 0) :: pins) σ H s' := I'.pins_of fun r hr => by
      rcases List.mem_cons.mp hr with e | hr
      · rw [e]
        exact ⟨eo, hn, fp.2.1, fp.2.2.1, fun v z => by cases z⟩
      · exact I'.pin r (List.mem_append_right _ hr)
    unfold Builtin.List.listLengthHint
    refine wpAny_bind (wpAny_bind (J'.type.here ((PySem.W.looks_findIn I'.kIn cl.at_).here ?_)))
    refine PySem.W.KFB.if_not rfl ?_
    refine PySem.W.KFB.if_so rfl ?_
    refine wpAny_bind (wpAny_rule ?_)
    refine wpAny_bind (wpAny_attempt ?_)
    refine wpAny_mono (own_len (Q := fun v s2 => ∃ t, v = .int (m : Int) t ∧ Inv X ((it, GNX.itObj l 0) :: pins) σ H s2) (E' := fun _ _ => False) (Sub.in1 sb) cl.at_ cl.ty cl.fn cl.bi IP hp hm hsp fun t s2 h => ⟨t, rfl, h⟩) (fun v s2 hv => ?_) (fun e s2 he => he.elim)
    obtain ⟨t, rfl, I2⟩ := hv
    refine wpAny_bind (m := asInt? (.int (m : Int) t)) (wpAny_pure ?_)
    refine PySem.W.KFB.if_not (notLongL (by rw [Int.toNat_natCast]; exact hm)) ?_
    have eo2 := (I2.pin (it, GNX.itObj l 0) (List.mem_append_right _ List.mem_cons_self)).1
    exact wpAny_pure ⟨I2.pins_of fun r hr => I2.pin r (List.mem_append_right _ (List.mem_cons_of_mem _ hr)), _, eo2, rfl, rfl⟩
  refine wpAny_bind (wpAny_holding (wpAny_mono hint (fun room s2 hr => ?_) fun _ _ z => z))
  obtain ⟨I2, st2⟩ := hr
  have hupd : upd H q (.lst (zs.take 0)) = H := by
    funext b
    by_cases hb : b = q
    · rw [hb, upd_same, hq]; rfl
    · rw [upd_ne hb]
  obtain ⟨z, its, k3, r3, hl3, e3⟩ := I2.lstM hq
  cases r3
  refine wpAny_ite_split (fun _ => ?_) (fun _ => wpAny_pure ⟨plainId_quiet PySem.F.plain_extend_loop _, ext_loop hh nql hl hsz hq hdone zs.length 0 s2 rfl (by rw [hupd]; exact I2) st2 fp⟩)
  refine wpAny_bind (wpAny_rule ?_)
  refine wpAny_bind ?_
  show wpAny _ _ (updateSeq q (·.push .none) >>= fun _ => updateSeq q (·.pop)) _ _ _
  refine wpAny_bind (wpAny_updateSeq e3 rfl ?_)
  have I4 := I2.lset (f := (·.push Value.none)) (its' := [Value.none]) (ys := [.non]) (t' := s2.toks) hq e3 (by simp) (.cons rfl .nil) (by rw [List.length_singleton, sizeLine_eq]; decide)
  obtain ⟨z4, its4, k4, r4, hl4, e4⟩ := I4.lstM upd_same
  obtain ⟨u4, rfl, ru4⟩ := r4.one
  refine wpAny_updateSeq e4 rfl ?_ (by show 1 ≤ sizeLine; rw [sizeLine_eq]; decide) (by show 0 ≤ sizeLine + 1; exact Nat.zero_le _)
  have I5 := I4.lset (f := (·.pop)) (its := [u4]) (its' := []) (ys := []) (t' := s2.toks) upd_same e4 (by rfl) .nil (Nat.zero_le _)
  rw [upd_upd] at I5
  refine wpAny_pure ⟨plainId_quiet PySem.F.plain_extend_loop _, ext_loop hh nql hl hsz hq hdone zs.length 0 _ rfl I5 ?_ fp⟩
  exact (st2.at fun o e => (Heap.get?_update_other _ _ (Ne.symm niq)).trans e).at fun o e => (Heap.get?_update_other _ _ (Ne.symm niq)).trans e
/-- list(o): a new list of what the list in the field holds -/
theorem call_listOwnL {sp : Sp} (ci : ItrC X C fi fdI fld k) (cl : LenC X C fl fdL sp k) (hc : X.calm = true) (hr : Room (k + 3) X.A) :
    CallR X (.type "list") (fun xs H Q => ∃ (p dx l : Addr) (fs : List (Str × V)) (zs : List V) (m : Nat), xs = [.ref p] ∧ H p = some (.ins C dx fs) ∧ fs.lookup fld = some (.ref l) ∧ H l = some (.lst zs) ∧ zs.length ≤ 1000 ∧ m ≤ sizeLine ∧
      (∀ H', Same H H' → sp [.ref p] H' (fun v H'' => v = .int (m : Int) ∧ H'' = H') E0) ∧ ∀ q, H q = none → Q (.ref q) (upd H q (.lst zs))) := by
  intro pins s σ H xs us Q I rv h
  obtain ⟨p, dx, l, fs, zs, m, rfl, hp, hf, hl, hz, hm, hsp, hq⟩ := h
  obtain ⟨u, rfl, ru⟩ := rv.one
  cases ru
  have sb : Sub X (k + 1) X.A.in1.in1 := (Sub.in1 (Sub.in1 (⟨hr, rfl⟩ : Sub X (k + 3) X.A)))
  refine callType_codes (Q₁ := fun obj s₁ => obj = .ref s.heap.objs.size ∧ s₁ = { s with heap := s.heap.push { cls := .type "list", data := .seq #[] } }) PySem.F.called_list (PySem.F.typeCall_list_1 _) PySem.F.entry_list_init
    (code_list_new _ ⟨rfl, rfl⟩) fun obj s₁ h₁ => ?_
  obtain ⟨rfl, rfl⟩ := h₁
  have hS : (s.heap.push { cls := .type "list", data := .seq #[] }).get? s.heap.objs.size = some { cls := .type "list", data := .seq #[] } := Heap.get?_push_size _ rfl
  refine ⟨⟨_, hS, rfl⟩, PySem.F.args_list_init_2 _ _, ?_⟩
  have fr : H s.heap.objs.size = none := I.hok.fresh (Nat.le_refl _)
  have hq' := hq _ fr
  have I1 : Inv X pins σ (upd H s.heap.objs.size (.lst [])) { s with heap := s.heap.push { cls := .type "list", data := .seq #[] } } := I.lnew (its := []) (t' := s.toks) .nil (Nat.zero_le _)
  show wpAny _ _ (do let old ← Builtin.List.listItems (.ref s.heap.objs.size); Builtin.List.listUpdate (.ref s.heap.objs.size) (fun _ => #[]); letGo old.toList.reverse; Builtin.List.listExtendWith (.ref s.heap.objs.size) (.ref p) .none) _ _ _
  refine wpAny_bind ?_
  unfold Builtin.List.listItems
  refine wpAny_bind (wpAny_seqItems hS rfl (wpAny_pure ?_))
  show wpAny _ _ (updateSeq s.heap.objs.size (fun _ => #[]) >>= fun _ => letGo (#[] : Array Value).toList.reverse >>= fun _ => Builtin.List.listExtendWith (.ref s.heap.objs.size) (.ref p) .none) _ _ _
  refine wpAny_bind (wpAny_updateSeq hS rfl ?_)
  have I2 := I1.lset (f := fun _ => #[]) (its := []) (its' := []) (ys := []) (t' := s.toks) upd_same hS rfl .nil (Nat.zero_le _)
  rw [upd_upd] at I2
  refine wpAny_bind (wpAny_letGo ?_)
  have sH : Same H (upd H s.heap.objs.size (.lst [])) := fun b x e => by rw [upd_ne (ne_of_none e fr)]; exact e
  have nql : l ≠ s.heap.objs.size := ne_of_none hl fr
  refine own_extendL (A1 := X.A.in1) (Rs := wants (fun r s₂ => r = .none ∧ EP X pins σ Q (.ref s.heap.objs.size) s₂) X.xe) sb (I.ok.hd hc) ci cl I2 (sH _ _ hp) hf (sH _ _ hl) (Nat.lt_of_le_of_lt hz (by decide)) hm (hsp _ sH) upd_same nql
    (fun s' I' => ⟨rfl, .ref s.heap.objs.size, _, I', rfl, by rw [upd_upd]; exact hq'⟩) (fun e s' he => he)
end
end RO

set_option maxRecDepth 100000
set_option maxHeartbeats 4000000
namespace K29
open PySem PySem.Spec PyProof.Rows L2 PySem.W PySem.Calls RJ
/-! ### heaps -/
theorem same_new {H : Hp} {p : Addr} {o : HO} (h : H p = none) : Same H (upd H p o) := fun b x e => by
  rw [upd_ne (ne_of_none e h)]; exact e
theorem same_at {H H' : Hp} {o : Addr} {x : HO} (s : Same H H') (h : H o = none) : Same H (upd H' o x) := fun b z e => by
  rw [upd_ne (ne_of_none e h)]; exact s b z e
theorem same_new2 {H H' : Hp} {p : Addr} {o : HO} (s : Same H H') (h : H' p = none) : Same H (upd H' p o) := fun b z e => by
  have e2 := s b z e
  rw [upd_ne (ne_of_none e2 h)]; exact e2
theorem map_snoc (rs : List Int) (r : Int) : rs.map V.int ++ [V.int r] = (rs ++ [r]).map V.int := by rw [List.map_append]; rfl
theorem map_snocS (rs : List Str) (r : Str) : rs.map V.str ++ [V.str r] = (rs ++ [r]).map V.str := by rw [List.map_append]; rfl
/-! ### texts as lists -/
abbrev tl (z : Str) : List Nat := z.cps.toList
theorem tl_len (z : Str) : (tl z).length = z.length := by simp [tl, Str.length]
theorem str_eq {a b : Str} (h : tl a = tl b) : a = b := by
  obtain ⟨x⟩ := a; obtain ⟨y⟩ := b
  show (⟨x⟩ : Str) = ⟨y⟩
  congr 1
  apply Array.toList_inj.mp; simpa [tl] using h
theorem str_of {z : Str} {x : Nat} (h : tl z = [x]) : z = ⟨#[x]⟩ := str_eq h
theorem str_mk (z : Str) : z = ⟨(tl z).toArray⟩ := str_eq rfl
theorem tl_add (a b : Str) : tl (a ++ b) = tl a ++ tl b := by
  show (a.cps ++ b.cps).toList = _
  rw [Array.toList_append]
theorem len_add (a b : Str) : (a ++ b).length = a.length + b.length := by
  show (a.cps ++ b.cps).size = _
  rw [Array.size_append]; rfl
theorem lt_one (x y : Nat) : decide ([x] < [y]) = !decide (y ≤ x) := by
  have e : decide ([x] < [y]) = decide (x < y) := by simp [List.cons_lt_cons_iff]
  rw [e]
  by_cases h : y ≤ x
  · rw [decide_eq_true h, decide_eq_false (by omega)]; rfl
  · rw [decide_eq_false h, decide_eq_true (by omega)]; rfl
theorem eqS (a b : Nat) : decide (V.str ⟨#[a]⟩ = V.str ⟨#[b]⟩) = decide (a = b) := by
  refine decide_eq_decide.mpr ⟨fun h => ?_, fun h => by rw [h]⟩
  injection h with h1
  have h2 := congrArg tl h1
  simpa [tl] using h2
theorem eqT (a b : Str) : decide (V.str a = V.str b) = decide (tl a = tl b) := by
  refine decide_eq_decide.mpr ⟨fun h => ?_, fun h => by rw [str_eq h]⟩
  injection h with h1
  rw [h1]
theorem eqI (a b : Int) : decide (V.int a = V.int b) = decide (a = b) := by
  refine decide_eq_decide.mpr ⟨fun h => ?_, fun h => by rw [h]⟩
  injection h
theorem cut_tl (z : Str) (a b : Nat) : tl (cutS z (some (a : Int)) (some (b : Int))) = ((tl z).drop (min a z.length)).take (min b z.length - min a z.length) := by
  unfold cutS tl
  rw [HT.sIx_nat, HT.sIx_nat]
theorem cut_to (z : Str) (b : Nat) : tl (cutS z none (some (b : Int))) = (tl z).take b := by
  unfold cutS tl
  rw [HT.sIx_none, HT.sIx_nat]
  show (z.cps.toList.drop 0).take (min b z.length - 0) = _
  rw [List.drop_zero, Nat.sub_zero]
  by_cases h : b ≤ z.length
  · rw [Nat.min_eq_left h]
  · rw [Nat.min_eq_right (by omega), List.take_of_length_le (by rw [tl_len]; exact Nat.le_refl _), List.take_of_length_le (by rw [tl_len]; omega)]
theorem cut_from (z : Str) (a : Nat) : tl (cutS z (some (a : Int)) none) = (tl z).drop a := by
  unfold cutS tl
  rw [HT.sIx_none, HT.sIx_nat]
  show (z.cps.toList.drop (min a z.length)).take (z.length - min a z.length) = _
  by_cases h : a ≤ z.length
  · rw [Nat.min_eq_left h, List.take_of_length_le (by rw [List.length_drop, tl_len]; exact Nat.le_refl _)]
  · rw [Nat.min_eq_right (by omega), Nat.sub_self, List.take_zero, List.drop_of_length_le (by rw [tl_len]; omega)]
theorem joinL_flat : ∀ ls : List (List Nat), TL.joinL [] ls = ls.flatten
  | [] => rfl
  | [p] => by simp [TL.joinL]
  | p :: q :: r => by
    have h := joinL_flat (q :: r)
    simp only [TL.joinL, List.nil_append, h, List.flatten_cons]
theorem tl_joined {e : Str} (he : tl e = []) (ys : List Str) : tl (Txt.join e ys) = (ys.map tl).flatten := by
  have h1 : TL.tl (Txt.join e ys) = TL.joinL (TL.tl e) (ys.map TL.tl) := by rw [TL.join_eq, TL.tl_join]
  have h2 : TL.tl e = [] := he
  rw [h2, joinL_flat] at h1
  exact h1
/-- texts of one sign each, joined -/
theorem join_ones (cs : List Nat) : tl (Txt.join (Str.ofString "") (cs.map fun c => (⟨#[c]⟩ : Str))) = cs := by
  rw [tl_joined (by decide +kernel), List.map_map]
  induction cs with
  | nil => rfl
  | cons c cs ih => simp only [List.map_cons, List.flatten_cons, ih]; rfl
theorem sum_ones (cs : List Nat) : ((cs.map fun c => (⟨#[c]⟩ : Str)).map (·.length)).sum = cs.length := by
  induction cs with
  | nil => rfl
  | cons c cs ih => simp only [List.map_cons, List.sum_cons, ih, List.length_cons]; show 1 + _ = _; omega
theorem pick {z : Str} {r : Int} (h0 : 0 ≤ r) (h1 : r < (z.length : Int)) : ∃ c, atI z.cps.toList r = some c ∧ c ∈ tl z := by
  have h2 : r.toNat < z.cps.toList.length := by rw [Array.length_toList]; have : z.length = z.cps.size := rfl; omega
  have h3 : ((r.toNat : Nat) : Int) = r := by omega
  have h4 := atI_nat (List.getElem?_eq_getElem h2)
  rw [h3] at h4
  exact ⟨_, h4, List.getElem_mem h2⟩
theorem cutV_nat (xs : List V) {a b : Nat} (hab : a ≤ b) (hb : b ≤ xs.length) : cutV xs (some (a : Int)) (some (b : Int)) = (xs.drop a).take (b - a) := by
  unfold cutV
  rw [HT.sIx_nat, HT.sIx_nat, Nat.min_eq_left hb, Nat.min_eq_left (Nat.le_trans hab hb)]
def isL (x : Nat) : Bool := decide (97 ≤ x) && decide (x ≤ 122)
def letters : Str := Str.ofString "abcdefghijklmnopqrstuvwxyz"
theorem letters_L : ∀ c ∈ tl letters, isL c = true := by decide +kernel
theorem letters_len : letters.length = 26 := by decide +kernel
/-! the text -/
def topS (i : Nat) : Stmt := PySem.Challenge.pw_laidforall_k29_syllables_of_tokens.main.body.getD i (.Pass ⟨0, 0, 0, 0⟩)
abbrev sLetter : Stmt := topS 5
abbrev sIsWord : Stmt := topS 12
abbrev sPart : Stmt := topS 13
abbrev sRead : Stmt := topS 14
abbrev sSays : Stmt := topS 15
abbrev sFits : Stmt := topS 16
abbrev sInit : Stmt := inClass (topS 17) 0
abbrev sLen : Stmt := inClass (topS 17) 1
abbrev sIter : Stmt := inClass (topS 17) 2
abbrev sDec : Stmt := inClass (topS 17) 3
abbrev sIsJ : Stmt := inClass (topS 17) 4
abbrev sGaps : Stmt := inClass (topS 17) 5
abbrev sCall : Stmt := inClass (topS 17) 6
abbrev sCell : Stmt := topS 19
abbrev sRow : Stmt := topS 20
abbrev sSame : Stmt := topS 21
abbrev sLetters : Stmt := topS 22
abbrev sJoint : Stmt := topS 23
abbrev sWritten : Stmt := topS 24
abbrev sList : Stmt := topS 25
abbrev sLSays : Stmt := topS 26
abbrev sLFits : Stmt := topS 27
abbrev sLIsJ : Stmt := topS 28
abbrev sWord : Stmt := topS 29
abbrev sToken : Stmt := topS 30
abbrev sLIsWord : Stmt := topS 31
abbrev sCuts : Stmt := topS 32
abbrev sSyl : Stmt := topS 33
abbrev sLaw : Stmt := topS 34
structure Blt (mg : Str → Option Value) : Prop where
  len : mg "len" = none
  int : mg "int" = none
  str : mg "str" = none
  bool : mg "bool" = none
  tuple : mg "tuple" = none
  list : mg "list" = none
  range : mg "range" = none
  isi : mg "isinstance" = none
  sorted : mg "sorted" = none
  enumerate : mg "enumerate" = none
  zip : mg "zip" = none
  all : mg "all" = none
  iter : mg "iter" = none
structure Cst (mg : Str → Option Value) (t1 t2 t3 t4 t5 : Tok) : Prop where
  g_MOST_JOINT_ROWS : mg "MOST_JOINT_ROWS" = some (.int 8 t1)
  g_LONGEST_PART : mg "LONGEST_PART" = some (.int 3 t2)
  g_ANY_LETTER : mg "ANY_LETTER" = some (.str (Str.ofString "?") t3)
  g_WORD_END : mg "WORD_END" = some (.str (Str.ofString ".") t4)
  g_FORBIDS : mg "FORBIDS" = some (.str (Str.ofString " no") t5)
theorem eQ : Str.ofString "?" = ⟨#[63]⟩ := by decide +kernel
theorem eD : Str.ofString "." = ⟨#[46]⟩ := by decide +kernel
theorem eDash : Str.ofString "-" = ⟨#[45]⟩ := by decide +kernel
section
variable {P : Program} {w : World} {K : PySem.W.Frag} {mg : Str → Option Value} {base : Heap}
/-! ### _law_cell -/
def spCell (K : PySem.W.Frag) : Sp := fun vs H Q _ => ∃ (a : Addr) (ns : List Int) (k : Int), vs = [.ref a, .int k] ∧ SqL K H a (ns.map V.int) ∧ ns.length ≤ 63 ∧ 0 ≤ k ∧ ∀ c, Q (.int c) H
theorem scCell : FnScope ["_law_script", "_law_k"] ["_law_script", "_law_k"] (defScope sCell) := ⟨rfl, rfl, rfl, by decide +kernel, rfl, by decide +kernel, by decide +kernel⟩
theorem ok_cell {f : Addr} {fd : FuncData} (B : Blt mg) (F : Fun K "_law_cell" "_law_cell" sCell f fd) : FnOk P w K mg base CX0 1 f fd ["_law_script", "_law_k"] (spCell K) := by
  refine F.ok scCell (fun vs H Q E h => ?_) (fun cdv A outer s H vs Q E hr h => ?_)
  · obtain ⟨a, ns, k, rfl, _⟩ := h; rfl
  · obtain ⟨a, ns, k, rfl, hS, hlen, h0, q⟩ := h
    refine ⟨_, pss_cons (ps_if (pt_cmpR op_lt (pv 1) (pe_callB call_len (by rfl) B.len PySem.boot_len (pa_cons (pv 0) pa_nil)) (nomark _)) (pss_one (ps_ret (pe_callTy call_int1 (by rfl) B.int (by decide +kernel) (pa_cons (pe_ix ix_list (pv 0) (pv 1) (fun _ _ => rfl)) pa_nil)))) pss_nil)
      (pss_one (ps_ret pe_int)), ?_⟩
    refine ⟨.int k, rfl, .ref a, rfl, .ref a, (ns.map V.int).length, rfl, .inl ⟨_, hS, rfl⟩, k, _, rfl, rfl, _, rfl, ite2 (fun hk => ?_) (fun _ => ?_)⟩
    · have hk' : k < ((ns.map V.int).length : Int) := of_decide_eq_true hk
      rw [List.length_map] at hk'
      have hlt : k.toNat < ns.length := by omega
      exact ⟨.ref a, rfl, .int k, rfl, a, _, k, .int (ns[k.toNat]'hlt), rfl, rfl, hS, at_of (j := k.toNat) (by omega) (by rw [List.getElem?_map]; simp [hlt]), .inl ⟨_, rfl, q _⟩⟩
    · exact q _
/-! ### _law_row -/
theorem map_snoc' (rs : List Int) (r : Int) : rs.map V.int ++ [V.int r] = (rs ++ [r]).map V.int := by rw [List.map_append]; rfl
def RowOf (ls rs : List Int) : Prop := rs.length = ls.length ∧ ∀ (i : Nat) (l : Int), ls[i]? = some l → ∃ r, rs[i]? = some r ∧ 0 ≤ r ∧ r < l
def spRow (K : PySem.W.Frag) : Sp := fun vs H Q _ => ∃ (c : Int) (a : Addr) (ls : List Int), vs = [.int c, .ref a] ∧ SqL K H a (ls.map V.int) ∧ ls.length ≤ 1000 ∧ (∀ l ∈ ls, 0 < l ∧ l < 1000000) ∧
  ∀ H' p rs, Same H H' → H p = none → H' p = some (.lst (rs.map V.int)) → RowOf ls rs → Q (.ref p) H'
theorem scRow : FnScope ["_law_cell_here", "_law_limits", "_law_row_here", "_law_rest", "_law_limit", "_law_k", "_law_mixed"] ["_law_cell_here", "_law_limits"] (defScope sRow) := ⟨rfl, rfl, rfl, by decide +kernel, rfl, by decide +kernel, by decide +kernel⟩
theorem ok_row {f : Addr} {fd : FuncData} (B : Blt mg) (F : Fun K "_law_row" "_law_row" sRow f fd) : FnOk P w K mg base CX0 1 f fd ["_law_cell_here", "_law_limits"] (spRow K) := by
  refine F.ok scRow (fun vs H Q E h => ?_) (fun cdv A outer s H vs Q E hr h => ?_)
  · obtain ⟨c, a, ls, rfl, _⟩ := h; rfl
  · obtain ⟨c, a, ls, rfl, hS, hlen, hpos, q⟩ := h
    refine ⟨_, (pss_cons (ps_set (i := 2) scRow.nd rfl (.inl rfl) (pe_lst pa_nil))
      (pss_cons (ps_if (pt_cmpR op_ge (pv 0) pe_int (nomark _))
      (pss_cons (ps_set (i := 3) scRow.nd rfl (.inl rfl) (pe_op op_sub (pv 0) pe_int))
       (pss_cons (ps_for (PassesOwn.never) rfl (pi_list (pv 1)) (pg_name (i := 4) scRow.nd rfl (.inl rfl))
       (pss_cons (ps_expr (pe_bm PySem.F.plainAttrs_list PySem.F.slot_list_append PySem.F.type_list_append mt_append (pv 2) (pa_cons (pe_op op_modN (pe_callTy call_int1 (by rfl) B.int (by decide +kernel) (pa_cons (pv 3) pa_nil)) (pv 4)) pa_nil)))
        (pss_one (ps_set (i := 3) scRow.nd rfl (.inl rfl) (pe_op op_fdivN (pv 3) (pv 4))))))
       (pss_one (ps_ret (pv 2)))))
      pss_nil)
      (pss_cons (ps_for (PassesOwn.never) rfl (pi_range1 (by rfl) B.range (pa_cons (pe_callB call_len (by rfl) B.len PySem.boot_len (pa_cons (pv 1) pa_nil)) pa_nil)) (pg_name (i := 5) scRow.nd rfl (.inl rfl))
      (pss_cons (ps_set (i := 6) scRow.nd rfl (.inl rfl) (pe_op op_modN (pe_callTy call_int1 (by rfl) B.int (by decide +kernel) (pa_cons (pe_op op_add (pe_op op_add (pe_op op_mul (pv 0) pe_int) (pe_op op_mul (pv 5) pe_int)) pe_int) pa_nil)) pe_int))
       (pss_cons (ps_set (i := 6) scRow.nd rfl (.inl rfl) (pe_op op_modN (pe_callTy call_int1 (by rfl) B.int (by decide +kernel) (pa_cons (pe_op op_add (pe_op op_add (pe_op op_mul (pv 6) (pe_op op_add pe_int (pe_op op_mul pe_int (pv 5)))) (pe_op op_mul (pe_op op_mul (pv 5) (pv 5)) pe_int)) pe_int) pa_nil)) pe_int))
       (pss_one (ps_expr (pe_bm PySem.F.plainAttrs_list PySem.F.slot_list_append PySem.F.type_list_append mt_append (pv 2) (pa_cons (pe_op op_modN (pe_callTy call_int1 (by rfl) B.int (by decide +kernel) (pa_cons (pe_op op_fdivN (pv 6) pe_int) pa_nil)) (pe_ix ix_list (pv 1) (pv 5) (fun _ _ => rfl))) pa_nil)))))))
      (pss_one (ps_ret (pv 2)))))), ?_⟩
    refine ⟨Nat.zero_le _, fun o no => ?_⟩
    have s1 : Same H (upd H o (.lst [])) := same_new no
    have eo : (upd H o (.lst [])) o = some (.lst (([] : List Int).map V.int)) := upd_same
    generalize upd H o (.lst []) = H1 at s1 eo ⊢
    have more : ∀ (n : Nat) (rs : List Int) (l : Int), ls[n]? = some l → rs.length = n → (∀ (i : Nat) (l : Int), i < n → ls[i]? = some l → ∃ r, rs[i]? = some r ∧ 0 ≤ r ∧ r < l) → ∀ x : Int, ∀ (i : Nat) (m : Int), i < n + 1 → ls[i]? = some m → ∃ r, (rs ++ [x.fmod l])[i]? = some r ∧ 0 ≤ r ∧ r < m := by
      intro n rs l hl hrs hrow x i m hi hm
      have hp := hpos l (List.mem_of_getElem? hl)
      by_cases hin : i < n
      · obtain ⟨r, h1, h2, h3⟩ := hrow i m hin hm
        exact ⟨r, by rw [List.getElem?_append_left (by omega)]; exact h1, h2, h3⟩
      · obtain rfl : i = n := by omega
        rw [hl] at hm; cases hm
        exact ⟨_, by rw [List.getElem?_append_right (by omega), hrs, Nat.sub_self]; rfl, Int.fmod_nonneg_of_pos _ hp.1, Int.fmod_lt_of_pos _ hp.1⟩
    refine ⟨.int c, rfl, c, 1000000000000000000, rfl, rfl, _, rfl, ite2 (fun _ => ?_) (fun _ => ?_)⟩
    · refine ⟨.int c, rfl, c, 1000000000000000000, rfl, rfl, .ref a, rfl, a, rfl, ⟨_, s1.seq hS⟩, for_list (K := K) (a := a) (xs := ls.map V.int) (fun n σ H' => ∃ (rest : Int) (y4 y5 y6 : Option V) (rs : List Int), σ = [some (.int c), some (.ref a), some (.ref o), some (.int rest), y4, y5, y6] ∧ Same H H' ∧ H' o = some (.lst (rs.map V.int)) ∧ rs.length = n ∧
        ∀ (i : Nat) (l : Int), i < n → ls[i]? = some l → ∃ r, rs[i]? = some r ∧ 0 ≤ r ∧ r < l) ⟨_, none, none, none, [], rfl, s1, eo, rfl, fun i l h => absurd h (Nat.not_lt_zero i)⟩ (fun n σ H' _ ⟨_, _, _, _, _, _, sm, _⟩ => sm.seq hS) ?_ ?_⟩
      · rintro n x σ H' hn ⟨rest, y4, y5, y6, rs, rfl, sm, ho, hl, hrow⟩
        rw [List.getElem?_map] at hn
        cases en : ls[n]? with
        | none => rw [en] at hn; cases hn
        | some l =>
        rw [en] at hn; cases hn
        have hp := hpos l (List.mem_of_getElem? en)
        have hlt := (List.getElem?_eq_some_iff.mp en).1
        have hsz : (rs.map V.int).length < sizeLine := by rw [List.length_map]; exact small1000 (by omega)
        refine ⟨.ref o, rfl, .inl ⟨rfl, _, SqL.of ho⟩, .int rest, rfl, .inl ⟨rest, rfl, .int l, rfl, rest, l, rfl, rfl, by omega, o, _, _, rfl, rfl, ho, hsz, ?_⟩⟩
        refine ⟨.int rest, rfl, .int l, rfl, rest, l, rfl, rfl, ⟨by omega, by omega⟩, ?_⟩
        exact ⟨_, _, _, _, _, rfl, same_at sm no, by rw [upd_same, map_snoc'], by rw [List.length_append, hl]; rfl, more n rs l en hl hrow rest⟩
      · rintro σ H' ⟨rest, y4, y5, y6, rs, rfl, sm, ho, hl, hrow⟩
        rw [List.length_map] at hl hrow
        exact ⟨.ref o, rfl, q H' o rs sm no ho ⟨hl, fun i l hli => hrow i l (List.getElem?_eq_some_iff.mp hli).1 hli⟩⟩
    · refine ⟨.ref a, rfl, .ref a, (ls.map V.int).length, rfl, .inl ⟨_, s1.seq hS, rfl⟩, ((ls.map V.int).length : Int), rfl, by omega, by rw [List.length_map]; omega, ?_⟩
      rw [Int.toNat_natCast, List.length_map]
      refine for_range (lo := 0) (n := ls.length) (fun n σ H' => ∃ (y3 y4 y5 y6 : Option V) (rs : List Int), σ = [some (.int c), some (.ref a), some (.ref o), y3, y4, y5, y6] ∧ Same H H' ∧ H' o = some (.lst (rs.map V.int)) ∧ rs.length = n ∧
        ∀ (i : Nat) (l : Int), i < n → ls[i]? = some l → ∃ r, rs[i]? = some r ∧ 0 ≤ r ∧ r < l) ⟨none, none, none, none, [], rfl, s1, eo, rfl, fun i l h => absurd h (Nat.not_lt_zero i)⟩ ?_ ?_
      · rintro n σ H' hn ⟨y3, y4, y5, y6, rs, rfl, sm, ho, hl, hrow⟩
        have e0 : (0 : Int) + (n : Int) = (n : Int) := by omega
        rw [e0]
        have hSn : SqL K H' a (ls.map V.int) := sm.seq hS
        have en : ls[n]? = some (ls[n]'hn) := by simp [hn]
        have hat : (ls.map V.int)[n]? = some (.int (ls[n]'hn)) := by rw [List.getElem?_map, en]; rfl
        have hp := hpos (ls[n]'hn) (List.getElem_mem hn)
        have hsz : (rs.map V.int).length < sizeLine := by rw [List.length_map]; exact small1000 (by omega)
        refine ⟨.int c, rfl, c, 48271, rfl, rfl, .inr ⟨by decide, by decide⟩, .int (n : Int), rfl, (n : Int), 69621, rfl, rfl, .inr ⟨by decide, by decide⟩, _, _, rfl, rfl, _, 11, rfl, rfl, .inl ⟨_, rfl, _, 2147483647, rfl, rfl, (show (2147483647 : Int) ≠ 0 by decide), ?_⟩⟩
        have hm0 : 0 ≤ (c * 48271 + (n : Int) * 69621 + 11).fmod 2147483647 := Int.fmod_nonneg_of_pos _ (by decide)
        have hm1 : (c * 48271 + (n : Int) * 69621 + 11).fmod 2147483647 < 2147483647 := Int.fmod_lt_of_pos _ (by decide)
        refine ⟨_, rfl, .int (n : Int), rfl, 2, (n : Int), rfl, rfl, .inl ⟨by decide, by decide⟩, 16807, _, rfl, rfl, (c * 48271 + (n : Int) * 69621 + 11).fmod 2147483647, _, rfl, rfl, .inl ⟨Int.lt_of_lt_of_le (by decide) hm0, Int.lt_trans hm1 (by decide)⟩, .int (n : Int), rfl, .int (n : Int), rfl, (n : Int), (n : Int), rfl, rfl, .inl ⟨by omega, by omega⟩, _, 40692, rfl, rfl, .inr ⟨by decide, by decide⟩, _, _, rfl, rfl, _, 7, rfl, rfl, .inl ⟨_, rfl, _, 2147483399, rfl, rfl, (show (2147483399 : Int) ≠ 0 by decide), ?_⟩⟩
        refine ⟨.ref o, rfl, .inl ⟨rfl, _, SqL.of ho⟩, _, rfl, _, 31, rfl, rfl, ⟨by decide, by decide⟩, .inl ⟨_, rfl, .ref a, rfl, .int (n : Int), rfl, a, _, (n : Int), .int (ls[n]'hn), rfl, rfl, hSn, atI_nat hat, _, ls[n]'hn, rfl, rfl, by omega, o, _, _, rfl, rfl, ho, hsz, ?_⟩⟩
        exact ⟨_, _, _, _, _, rfl, same_at sm no, by rw [upd_same, map_snoc'], by rw [List.length_append, hl]; rfl, more n rs _ en hl hrow _⟩
      · rintro σ H' ⟨y3, y4, y5, y6, rs, rfl, sm, ho, hl, hrow⟩
        exact ⟨.ref o, rfl, q H' o rs sm no ho ⟨hl, fun i l hli => hrow i l (List.getElem?_eq_some_iff.mp hli).1 hli⟩⟩
end
end K29

set_option maxRecDepth 100000
set_option maxHeartbeats 4000000
namespace K29
open PySem PySem.Spec PyProof.Rows L2 RJ
/-! ### parts -/
def PartOk (e : Int) (l : List Nat) : Prop := ∀ (i c : Nat), l[i]? = some c → isL c = true ∨ c = 63 ∨ (c = 46 ∧ (i : Int) = e)
def okc (w c : Nat) : Bool := decide (w = c) || (decide (w = 63) && isL c)
def saysZ : List Nat → List Nat → Bool
  | w :: ws, c :: cs => okc w c && saysZ ws cs
  | _, _ => true
/-- a row fits a gap -/
def fitsB (l r w : List Nat) (g : Nat) : Bool :=
  !(decide ((w.take g).length + 1 < l.length) || decide ((w.drop g).length + 1 < r.length)) &&
    (saysZ l ((46 :: w.take g).drop ((w.take g).length + 1 - l.length)) && saysZ r ((w.drop g ++ [46]).take r.length))
section
variable {P : Program} {w : World} {K : PySem.W.Frag} {mg : Str → Option Value} {base : Heap} {t1 t2 t3 t4 t5 : Tok}
/-! ### is_letter -/
def spLet : Sp := fun vs H Q _ => ∃ (x : Nat), vs = [.str ⟨#[x]⟩] ∧ Q (.bl (isL x)) H
theorem scLetter : FnScope ["char"] ["char"] (defScope sLetter) := ⟨rfl, rfl, rfl, by decide +kernel, rfl, by decide +kernel, by decide +kernel⟩
theorem ok_letter {f : Addr} {fd : FuncData} (F : Fun K "is_letter" "is_letter" sLetter f fd) : FnOk P w K mg base CX0 1 f fd ["char"] spLet := by
  refine F.ok scLetter (fun vs H Q E h => ?_) (fun cdv A outer s H vs Q E hr h => ?_)
  · obtain ⟨c, rfl, _⟩ := h; rfl
  · obtain ⟨x, rfl, q⟩ := h
    refine ⟨_, pss_one (ps_ret (pe_chain op_le_str op_le_str pe_str (pv 0) pe_str)), ?_⟩
    refine ⟨.str ⟨#[x]⟩, rfl, _, ⟨#[x]⟩, rfl, rfl, _, rfl, ?_⟩
    have hc : (⟨#[x]⟩ : Str).cps.toList = [x] := rfl
    have e : (!decide ((⟨#[x]⟩ : Str).cps.toList < (Str.ofString "a").cps.toList)) = decide (97 ≤ x) := by rw [hc, show (Str.ofString "a").cps.toList = [97] by decide +kernel, lt_one, Bool.not_not]
    have e2 : (!decide ((Str.ofString "z").cps.toList < (⟨#[x]⟩ : Str).cps.toList)) = decide (x ≤ 122) := by rw [hc, show (Str.ofString "z").cps.toList = [122] by decide +kernel, lt_one, Bool.not_not]
    rw [e]
    refine ite2 (fun h => ?_) (fun h => ?_)
    · refine ⟨⟨#[x]⟩, _, rfl, rfl, ?_⟩
      rw [e2]; unfold isL at q; rw [h, Bool.true_and] at q; exact q
    · have h' : decide (97 ≤ x) = false := by simpa using h
      unfold isL at q; rw [h', Bool.false_and] at q; exact q
/-! ### _is_part -/
def spPart : Sp := fun vs H Q _ => ∃ (z : Str) (e : Int), vs = [.str z, .int e] ∧ z.length ≤ 3 ∧ PartOk e (tl z) ∧ ∀ H', Same H H' → Q (.bl true) H'
theorem scPart : FnScope ["text", "end", "at", "char"] ["text", "end"] (defScope sPart) := ⟨rfl, rfl, rfl, by decide +kernel, rfl, by decide +kernel, by decide +kernel⟩
theorem ok_part {f f_is_letter : Addr} {fd fd_is_letter : FuncData} (B : Blt mg) (Z : Cst mg t1 t2 t3 t4 t5) (F : Fun K "_is_part" "_is_part" sPart f fd)
    (F_is_letter : Fun K "is_letter" "is_letter" sLetter f_is_letter fd_is_letter) (b_is_letter : Binds K fd_is_letter ["char"] []) (g_is_letter : mg "is_letter" = some (.ref f_is_letter)) :
    FnOk P w K mg base CX0 2 f fd ["text", "end"] spPart := by
  have G_is_letter : FnOk P w K mg base CX0 1 f_is_letter fd_is_letter ["char"] spLet := ok_letter F_is_letter
  refine F.ok scPart (fun vs H Q E h => ?_) (fun cdv A0 outer s H vs Q E hr h => ?_)
  · obtain ⟨z, e, rfl, _⟩ := h; rfl
  · obtain ⟨z, e, rfl, hl, hp, q⟩ := h
    refine ⟨_, (pss_cons (ps_if (pt_cmpR op_gt (pe_callB call_len (by rfl) B.len PySem.boot_len (pa_cons (pv 0) pa_nil)) (pe_glob (v := .int 3) (by rfl) Z.g_LONGEST_PART ⟨_, rfl⟩) (nomark _))
      (pss_one (ps_ret pe_bl))
      pss_nil)
      (pss_cons (ps_for (PassesOwn.never) rfl (pi_enumS (by rfl) B.enumerate (pa_cons (pv 0) pa_nil)) (pg_tup rfl (pgs_cons (pg_name (i := 2) scPart.nd rfl (.inl rfl)) (pgs_cons (pg_name (i := 3) scPart.nd rfl (.inl rfl)) pgs_nil)))
      (pss_one (ps_if (PW.pt (pw_and (pt_cmpR op_ne (pv 3) (pe_glob (v := .str (Str.ofString "?")) (by rfl) Z.g_ANY_LETTER ⟨_, rfl⟩) (nomark _)) (pw_and (pt_not (pt_val (pe_call G_is_letter hr (by rfl) g_is_letter F_is_letter.kp b_is_letter .nil pass0 (pa_cons (pv 3) pa_nil)))) (pw_and1 (PW.pt (pw_or (pt_cmpR op_ne (pv 3) (pe_glob (v := .str (Str.ofString ".")) (by rfl) Z.g_WORD_END ⟨_, rfl⟩) (nomark _)) (pw_or1 (pt_cmpR op_ne (pv 2) (pv 1) (nomark _)))))))))
       (pss_one (ps_ret pe_bl))
       pss_nil)))
      (pss_one (ps_ret pe_bl)))), ?_⟩
    refine ⟨.str z, rfl, .str z, z.length, rfl, ⟨Nat.le_trans hl (by decide), rfl⟩, _, 3, rfl, rfl, _, rfl, ?_⟩
    rw [decide_eq_false (by omega)]
    refine iteF ⟨.str z, rfl, z, rfl, ?_⟩
    refine for_enumS (fun i σ H' => ∃ y2 y3, σ = [some (.str z), some (.int e), y2, y3] ∧ Same H H') ⟨none, none, rfl, Same.refl _⟩ ?_ ?_
    · rintro i c T σ H' hc ⟨y2, y3, rfl, sm⟩ nT
      have hc' : (tl z)[i]? = some c := by simpa [tl] using hc
      refine ⟨T, _, rfl, SqT.of upd_same, rfl, .int (i : Nat), _, rfl, .str ⟨#[c]⟩, _, rfl, rfl, ?_⟩
      have go : ∃ y2 y3, ([some (V.str z), some (V.int e), some (V.int (i : Nat)), some (V.str ⟨#[c]⟩)] : L2.St) = [some (.str z), some (.int e), y2, y3] ∧ Same H (upd H' T (.tup [.int (i : Nat), .str ⟨#[c]⟩])) := ⟨_, _, rfl, same_new2 sm nT⟩
      refine ⟨.str ⟨#[c]⟩, rfl, rfl, _, rfl, ?_⟩
      rw [eQ, eqS]
      rcases hp i c hc' with h | h | ⟨h, h2⟩
      · refine ite2 (fun _ => ⟨.str ⟨#[c]⟩, rfl, c, rfl, _, rfl, ?_⟩) (fun _ => go)
        rw [h]
        exact iteF go
      · rw [decide_eq_true h]
        exact iteF go
      · refine ite2 (fun _ => ⟨.str ⟨#[c]⟩, rfl, c, rfl, _, rfl, ?_⟩) (fun _ => go)
        refine ite2 (fun _ => ⟨.str ⟨#[c]⟩, rfl, rfl, _, rfl, ?_⟩) (fun _ => go)
        rw [eD, eqS, decide_eq_true h]
        refine iteF ⟨.int (i : Nat), rfl, .int e, rfl, rfl, _, rfl, ?_⟩
        rw [eqI, decide_eq_true h2]
        exact iteF go
    · rintro σ H' ⟨y2, y3, rfl, sm⟩
      exact q H' sm
/-! ### _read_joint -/
theorem par_dash (l : List Nat) (r acc : List Nat) (h : 45 ∉ l) : TL.par [45] acc (l ++ 45 :: r) = some (acc ++ l, r) := by
  induction l generalizing acc with
  | nil => simp [TL.par, TL.pre]
  | cons c l ih =>
    have h1 : c ≠ 45 := fun e => h (by simp [e])
    have h2 : 45 ∉ l := fun e => h (by simp [e])
    rw [List.cons_append]
    unfold TL.par
    have hp : TL.pre [45] (c :: (l ++ 45 :: r)) = false := by
      simp [TL.pre, h1]
    rw [if_neg (by rw [hp]; exact Bool.false_ne_true), ih _ h2, List.append_assoc]; rfl
theorem part_no {e : Int} {l : List Nat} (h : PartOk e l) {x : Nat} (hx : isL x = false) (h1 : x ≠ 63) (h2 : x ≠ 46) : x ∉ l := fun hm => by
  obtain ⟨i, hi⟩ := List.mem_iff_getElem?.mp hm
  rcases h i x hi with h | h | h
  · rw [hx] at h; cases h
  · exact h1 h
  · exact h2 h.1
def noL (b : Bool) : List Nat := if b then [32, 110, 111] else []
/-- the written row -/
def wrt (l r : List Nat) (b : Bool) : List Nat := l ++ 45 :: (r ++ noL b)
theorem partn {z l r : Str} {b : Bool} (hz : tl z = wrt (tl l) (tl r) b) (h : PartOk 0 (tl l)) : Txt.partition z (Str.ofString "-") = (l, Str.ofString "-", ⟨(tl r ++ noL b).toArray⟩) := by
  have hn : 45 ∉ tl l := part_no h (by decide) (by decide) (by decide)
  have e := SX.partition_some (a := tl z) (b := [45]) (p := tl l) (q := tl r ++ noL b) (by decide) (by rw [hz]; unfold wrt; rw [par_dash _ _ _ hn]; rfl)
  rw [SX.S_tl] at e
  have e1 : SX.S [45] = Str.ofString "-" := by decide +kernel
  rw [e1] at e
  rw [e]
theorem suff {r : Str} {b : Bool} {e : Int} (h3 : r.length ≤ 3) (h : PartOk e (tl r)) : Txt.removesuffix ⟨(tl r ++ noL b).toArray⟩ (Str.ofString " no") = r := by
  have hs : tl (Str.ofString " no") = [32, 110, 111] := by decide +kernel
  have hsl : (Str.ofString " no").length = 3 := by decide +kernel
  have hl : (⟨(tl r ++ noL b).toArray⟩ : Str).length = (tl r).length + (noL b).length := by show (tl r ++ noL b).toArray.size = _; simp
  rw [PySem.StrLaws.removesuffix_eq]
  cases b with
  | true =>
    have e1 : (noL true).length = 3 := rfl
    have e2 : tl (⟨(tl r ++ noL true).toArray⟩ : Str) = tl r ++ [32, 110, 111] := rfl
    have hat : Builtin.Str.subAt ⟨(tl r ++ noL true).toArray⟩ (Str.ofString " no") ((⟨(tl r ++ noL true).toArray⟩ : Str).length - (Str.ofString " no").length) = true := by
      have := (TL.at_iff (x := ⟨(tl r ++ noL true).toArray⟩) (y := Str.ofString " no") (by rw [show TL.tl (Str.ofString " no") = [32, 110, 111] from hs]; decide) ((tl r).length)).mpr (by
        show TL.pre (tl (Str.ofString " no")) ((tl r ++ [32, 110, 111]).drop (tl r).length) = true
        rw [hs, List.drop_left]; rfl)
      rw [hl, e1, hsl, Nat.add_sub_cancel]
      exact this.2
    rw [hat, hl, e1, hsl, decide_eq_true (by omega)]
    rw [Bool.and_self, if_pos rfl]
    refine str_eq ?_
    show ((tl r ++ [32, 110, 111]).drop 0).take ((tl r).length + 3 - 3 - 0) = tl r
    rw [List.drop_zero, Nat.add_sub_cancel, Nat.sub_zero, List.take_left]
  | false =>
    have e0 : (⟨(tl r ++ noL false).toArray⟩ : Str) = r := by
      refine str_eq ?_
      show tl r ++ [] = tl r
      rw [List.append_nil]
    rw [e0, hsl]
    have : (decide (0 + 3 ≤ r.length) && Builtin.Str.subAt r (Str.ofString " no") (r.length - 3)) = false := by
      by_cases hlt : r.length = 3
      · rw [hlt]
        rw [Bool.and_eq_false_iff]; right
        cases hb : Builtin.Str.subAt r (Str.ofString " no") (3 - 3) with
        | false => rfl
        | true =>
          exfalso
          have hat : PySem.StrLaws.At r (Str.ofString " no") r.length 0 := by
            refine ⟨?_, hb⟩
            rw [hsl, hlt]; decide
          have hp := (TL.at_iff (x := r) (y := Str.ofString " no") (by rw [show TL.tl (Str.ofString " no") = [32, 110, 111] from hs]; decide) 0).mp hat
          have hp' : TL.pre [32, 110, 111] (tl r) = true := by
            rw [← hs]
            exact hp
          have h4 : (tl r).take 3 = [32, 110, 111] := by simpa [TL.pre] using hp'
          have h5 : 32 ∈ tl r := List.mem_of_mem_take (by rw [h4]; simp : 32 ∈ (tl r).take 3)
          exact part_no h (by decide) (by decide) (by decide) h5
      · rw [decide_eq_false (by omega)]; rfl
    rw [this, if_neg (by decide)]
end
end K29

set_option maxRecDepth 100000
set_option maxHeartbeats 4000000
namespace K29
open PySem PySem.Spec PyProof.Rows L2 RJ
section
variable {P : Program} {w : World} {K : PySem.W.Frag} {mg : Str → Option Value} {base : Heap} {t1 t2 t3 t4 t5 : Tok}
/-! ### _read_joint -/
def spRead : Sp := fun vs H Q _ => ∃ (z l r : Str) (b : Bool), vs = [.str z] ∧ tl z = wrt (tl l) (tl r) b ∧ l.length ≤ 3 ∧ r.length ≤ 3 ∧ PartOk 0 (tl l) ∧ PartOk ((r.length : Int) - 1) (tl r) ∧
  ∀ H' p, Same H H' → H' p = some (.tup [.str l, .str r, .bl b]) → Q (.ref p) H'
theorem scRead : FnScope ["line", "left", "dash", "tail", "right"] ["line"] (defScope sRead) := ⟨rfl, rfl, rfl, by decide +kernel, rfl, by decide +kernel, by decide +kernel⟩
theorem ok_read {f f_is_letter f_is_part : Addr} {fd fd_is_letter fd_is_part : FuncData} (B : Blt mg) (Z : Cst mg t1 t2 t3 t4 t5) (F : Fun K "_read_joint" "_read_joint" sRead f fd)
    (F_is_letter : Fun K "is_letter" "is_letter" sLetter f_is_letter fd_is_letter) (b_is_letter : Binds K fd_is_letter ["char"] []) (g_is_letter : mg "is_letter" = some (.ref f_is_letter))
    (F_is_part : Fun K "_is_part" "_is_part" sPart f_is_part fd_is_part) (b_is_part : Binds K fd_is_part ["text", "end"] []) (g_is_part : mg "_is_part" = some (.ref f_is_part)) :
    FnOk P w K mg base CX0 3 f fd ["line"] spRead := by
  have G_is_part : FnOk P w K mg base CX0 2 f_is_part fd_is_part ["text", "end"] spPart := ok_part B Z F_is_part F_is_letter b_is_letter g_is_letter
  refine F.ok scRead (fun vs H Q E h => ?_) (fun cdv A0 outer s H vs Q E hr h => ?_)
  · obtain ⟨z, l, r, b, rfl, _⟩ := h; rfl
  · obtain ⟨z, l, r, b, rfl, hz, hl, hrl, pl, pr, q⟩ := h
    refine ⟨_, (pss_cons (ps_asg (pe_partition (pv 0) pe_str) (pg_tup rfl (pgs_cons (pg_name (i := 1) scRead.nd rfl (.inl rfl)) (pgs_cons (pg_name (i := 2) scRead.nd rfl (.inl rfl)) (pgs_cons (pg_name (i := 3) scRead.nd rfl (.inl rfl)) pgs_nil)))))
      (pss_cons (ps_set (i := 4) scRead.nd rfl (.inl rfl) (pe_m1 PySem.F.slot_str_removesuffix PySem.F.type_str_removesuffix mt_removesuffix (pv 3) (pe_glob (v := .str (Str.ofString " no")) (by rfl) Z.g_FORBIDS ⟨_, rfl⟩)))
      (pss_cons (ps_if (PW.pt (pw_or (pt_cmpR op_eq (pv 2) pe_str (nomark _)) (pw_or (pt_not (pt_val (pe_call G_is_part hr (by rfl) g_is_part F_is_part.kp b_is_part .nil pass0 (pa_cons (pv 1) (pa_cons pe_int pa_nil))))) (pw_or1 (pt_not (pt_val (pe_call G_is_part hr (by rfl) g_is_part F_is_part.kp b_is_part .nil pass0 (pa_cons (pv 4) (pa_cons (pe_op op_sub (pe_callB call_len (by rfl) B.len PySem.boot_len (pa_cons (pv 4) pa_nil)) pe_int) pa_nil)))))))))
      (pss_one ps_never)
      pss_nil)
      (pss_one (ps_ret (pe_tup (pa_cons (pv 1) (pa_cons (pv 4) (pa_cons (pe_cmpR op_ne (pv 4) (pv 3) (nomark _)) pa_nil))))))))), ?_⟩
    have hn : (noL b).length ≤ 3 := by cases b <;> decide
    have hzl : z.length ≤ 100 := by
      rw [← tl_len, hz]; unfold wrt
      have e1 := tl_len l; have e2 := tl_len r
      simp only [List.length_append, List.length_cons]; omega
    have htl : (⟨(tl r ++ noL b).toArray⟩ : Str).length ≤ 100 := by
      show (tl r ++ noL b).toArray.size ≤ _
      have e2 := tl_len r
      rw [List.size_toArray, List.length_append]; omega
    refine ⟨.str z, rfl, ⟨z, rfl⟩, z, Str.ofString "-", rfl, rfl, by decide +kernel, Nat.le_trans hzl (by decide), fun p np => ?_⟩
    rw [partn hz pl]
    have s1 : Same H (upd H p (.tup [.str l, .str (Str.ofString "-"), .str ⟨(tl r ++ noL b).toArray⟩])) := same_new np
    refine ⟨p, _, rfl, SqT.of upd_same, rfl, .str l, _, rfl, .str (Str.ofString "-"), _, rfl, .str ⟨(tl r ++ noL b).toArray⟩, _, rfl, rfl, ?_⟩
    generalize upd H p (.tup [.str l, .str (Str.ofString "-"), .str ⟨(tl r ++ noL b).toArray⟩]) = H1 at s1 ⊢
    refine ⟨.str ⟨(tl r ++ noL b).toArray⟩, rfl, ⟨_, rfl⟩, _, _, rfl, rfl, Nat.le_trans htl (by decide), ?_⟩
    dsimp only
    rw [suff hrl pr]
    refine ⟨.str (Str.ofString "-"), rfl, rfl, _, rfl, ?_⟩
    rw [show decide (V.str (Str.ofString "-") = V.str (Str.ofString "")) = false by rw [eqT]; decide +kernel]
    refine iteF ⟨.str l, rfl, l, 0, rfl, hl, pl, fun H2 s2 => ⟨true, rfl, iteF ?_⟩⟩
    refine ⟨.str r, rfl, .str r, rfl, .str r, r.length, rfl, ⟨Nat.le_trans hrl (by decide), rfl⟩, _, 1, rfl, rfl, r, _, rfl, hrl, pr, fun H3 s3 => ⟨true, rfl, iteF ?_⟩⟩
    refine ⟨.str l, rfl, .str r, rfl, .str r, rfl, .str ⟨(tl r ++ noL b).toArray⟩, rfl, rfl, (by show 3 ≤ sizeLine; decide), fun t nt => ?_⟩
    refine q _ t (s1.trans (s2.trans (s3.trans (same_new nt)))) ?_
    rw [upd_same, eqT]
    have : (!decide (tl r = tl (⟨(tl r ++ noL b).toArray⟩ : Str))) = b := by
      show (!decide (tl r = tl r ++ noL b)) = b
      cases b with
      | true => rw [decide_eq_false (by intro e; have := congrArg List.length e; simp [noL] at this)]; rfl
      | false => rw [decide_eq_true (by simp [noL])]; rfl
    rw [this]
/-! ### _says -/
theorem says_drop {a b : List Nat} {i x y : Nat} (h1 : a[i]? = some x) (h2 : b[i]? = some y) : saysZ (a.drop i) (b.drop i) = (okc x y && saysZ (a.drop (i + 1)) (b.drop (i + 1))) := by
  obtain ⟨l1, e1⟩ := List.getElem?_eq_some_iff.mp h1
  obtain ⟨l2, e2⟩ := List.getElem?_eq_some_iff.mp h2
  rw [List.drop_eq_getElem_cons l1, List.drop_eq_getElem_cons l2, e1, e2]; rfl
theorem says_end {a b : List Nat} {n : Nat} (h : n = min a.length b.length) : saysZ (a.drop n) (b.drop n) = true := by
  by_cases hl : a.length ≤ b.length
  · rw [show n = a.length by omega, List.drop_length]; rfl
  · rw [show n = b.length by omega, List.drop_length]
    cases a.drop b.length <;> rfl
def spSays : Sp := fun vs H Q _ => ∃ (a b : Str), vs = [.str a, .str b] ∧ ∀ H', Same H H' → Q (.bl (saysZ (tl a) (tl b))) H'
theorem scSays : FnScope ["part", "text", "wanted", "char"] ["part", "text"] (defScope sSays) := ⟨rfl, rfl, rfl, by decide +kernel, rfl, by decide +kernel, by decide +kernel⟩
theorem ok_says {f f_is_letter : Addr} {fd fd_is_letter : FuncData} (B : Blt mg) (Z : Cst mg t1 t2 t3 t4 t5) (F : Fun K "_says" "_says" sSays f fd)
    (F_is_letter : Fun K "is_letter" "is_letter" sLetter f_is_letter fd_is_letter) (b_is_letter : Binds K fd_is_letter ["char"] []) (g_is_letter : mg "is_letter" = some (.ref f_is_letter)) :
    FnOk P w K mg base CX0 2 f fd ["part", "text"] spSays := by
  have G_is_letter : FnOk P w K mg base CX0 1 f_is_letter fd_is_letter ["char"] spLet := ok_letter F_is_letter
  refine F.ok scSays (fun vs H Q E h => ?_) (fun cdv A0 outer s H vs Q E hr h => ?_)
  · obtain ⟨a, b, rfl, _⟩ := h; rfl
  · obtain ⟨a, b, rfl, q⟩ := h
    refine ⟨_, (pss_cons (ps_for (PassesOwn.never) rfl (pi_zipS (by rfl) B.zip (pa_cons (pv 0) (pa_cons (pv 1) pa_nil))) (pg_tup rfl (pgs_cons (pg_name (i := 2) scSays.nd rfl (.inl rfl)) (pgs_cons (pg_name (i := 3) scSays.nd rfl (.inl rfl)) pgs_nil)))
      (pss_one (ps_if (PW.pt (pw_and (pt_cmpR op_ne (pv 2) (pv 3) (nomark _)) (pw_and1 (PW.pt (pw_or (pt_cmpR op_ne (pv 2) (pe_glob (v := .str (Str.ofString "?")) (by rfl) Z.g_ANY_LETTER ⟨_, rfl⟩) (nomark _)) (pw_or1 (pt_not (pt_val (pe_call G_is_letter hr (by rfl) g_is_letter F_is_letter.kp b_is_letter .nil pass0 (pa_cons (pv 3) pa_nil))))))))))
       (pss_one (ps_ret pe_bl))
       pss_nil)))
      (pss_one (ps_ret pe_bl))), ?_⟩
    refine ⟨.str a, rfl, .str b, rfl, a, b, rfl, ?_⟩
    have hn : min a.cps.size b.cps.size = min (tl a).length (tl b).length := by simp [tl]
    refine for_zipS (min a.cps.size b.cps.size) rfl (fun i σ H' => ∃ y2 y3, σ = [some (.str a), some (.str b), y2, y3] ∧ Same H H' ∧ saysZ (tl a) (tl b) = saysZ ((tl a).drop i) ((tl b).drop i)) ⟨none, none, rfl, Same.refl _, rfl⟩ ?_ ?_
    · rintro i c d T σ H' hi hc hd ⟨y2, y3, rfl, sm, hs⟩ nT
      have hc' : (tl a)[i]? = some c := by simpa [tl] using hc
      have hd' : (tl b)[i]? = some d := by simpa [tl] using hd
      have hk := says_drop hc' hd'
      refine ⟨T, _, rfl, SqT.of upd_same, rfl, .str ⟨#[c]⟩, _, rfl, .str ⟨#[d]⟩, _, rfl, rfl, ?_⟩
      have go : okc c d = true → ∃ y2 y3, ([some (V.str a), some (V.str b), some (V.str ⟨#[c]⟩), some (V.str ⟨#[d]⟩)] : L2.St) = [some (.str a), some (.str b), y2, y3] ∧ Same H (upd H' T (.tup [.str ⟨#[c]⟩, .str ⟨#[d]⟩])) ∧ saysZ (tl a) (tl b) = saysZ ((tl a).drop (i + 1)) ((tl b).drop (i + 1)) := fun ho => ⟨_, _, rfl, same_new2 sm nT, by rw [hs, hk, ho, Bool.true_and]⟩
      have no : okc c d = false → Q (.bl false) (upd H' T (.tup [.str ⟨#[c]⟩, .str ⟨#[d]⟩])) := fun ho => by
        have h := q _ (same_new2 (o := .tup [.str ⟨#[c]⟩, .str ⟨#[d]⟩]) sm nT)
        rw [hs, hk, ho, Bool.false_and] at h; exact h
      refine ⟨.str ⟨#[c]⟩, rfl, .str ⟨#[d]⟩, rfl, rfl, _, rfl, ?_⟩
      rw [eqS]
      refine ite2 (fun h1 => ?_) (fun h1 => go (by unfold okc; simp at h1; simp [h1]))
      have f1 : ¬ c = d := by simpa using h1
      refine ⟨.str ⟨#[c]⟩, rfl, rfl, _, rfl, ?_⟩
      rw [eQ, eqS]
      refine ite2 (fun h2 => iteT (no ?_)) (fun h2 => ⟨.str ⟨#[d]⟩, rfl, d, rfl, _, rfl, ?_⟩)
      · have f2 : ¬ c = 63 := by simpa using h2
        unfold okc; simp [f1, f2]
      · have f2 : c = 63 := by simpa using h2
        refine ite2 (fun h3 => no ?_) (fun h3 => go ?_)
        · have f3 : isL d = false := by simpa using h3
          unfold okc; simp [f1, f3]
        · have f3 : isL d = true := by simpa using h3
          unfold okc; simp [f2, f3]
    · rintro σ H' ⟨y2, y3, rfl, sm, hs⟩
      have h := q H' sm
      rw [hs, says_end hn] at h
      exact h
/-! ### _fits -/
def spFits : Sp := fun vs H Q _ => ∃ (t : Addr) (l r wd : Str) (b : Bool) (g : Nat), vs = [.ref t, .str wd, .int (g : Int)] ∧ H t = some (.tup [.str l, .str r, .bl b]) ∧ l.length ≤ 3 ∧ r.length ≤ 3 ∧ wd.length ≤ 100 ∧ g ≤ wd.length ∧ ∀ H', Same H H' → Q (.bl (fitsB (tl l) (tl r) (tl wd) g)) H'
theorem scFits : FnScope ["row", "word", "gap", "left", "right", "_", "before", "behind"] ["row", "word", "gap"] (defScope sFits) := ⟨rfl, rfl, rfl, by decide +kernel, rfl, by decide +kernel, by decide +kernel⟩
theorem ok_fits {f f_is_letter f_says : Addr} {fd fd_is_letter fd_says : FuncData} (B : Blt mg) (Z : Cst mg t1 t2 t3 t4 t5) (F : Fun K "_fits" "_fits" sFits f fd)
    (F_is_letter : Fun K "is_letter" "is_letter" sLetter f_is_letter fd_is_letter) (b_is_letter : Binds K fd_is_letter ["char"] []) (g_is_letter : mg "is_letter" = some (.ref f_is_letter))
    (F_says : Fun K "_says" "_says" sSays f_says fd_says) (b_says : Binds K fd_says ["part", "text"] []) (g_says : mg "_says" = some (.ref f_says)) :
    FnOk P w K mg base CX0 3 f fd ["row", "word", "gap"] spFits := by
  have G_says : FnOk P w K mg base CX0 2 f_says fd_says ["part", "text"] spSays := ok_says B Z F_says F_is_letter b_is_letter g_is_letter
  refine F.ok scFits (fun vs H Q E h => ?_) (fun cdv A0 outer s H vs Q E hr h => ?_)
  · obtain ⟨t, l, r, wd, b, g, rfl, _⟩ := h; rfl
  · obtain ⟨t, l, r, wd, b, g, rfl, ht, hl, hrl, hw, hg, q⟩ := h
    refine ⟨_, (pss_cons (ps_asg (pv 0) (pg_tup rfl (pgs_cons (pg_name (i := 3) scFits.nd rfl (.inl rfl)) (pgs_cons (pg_name (i := 4) scFits.nd rfl (.inl rfl)) (pgs_cons (pg_name (i := 5) scFits.nd rfl (.inl rfl)) pgs_nil)))))
      (pss_cons (ps_set (i := 6) scFits.nd rfl (.inl rfl) (pe_op op_add_str (pe_glob (v := .str (Str.ofString ".")) (by rfl) Z.g_WORD_END ⟨_, rfl⟩) (pe_slice sl_str (pv 1) po_none (po_some (pv 2)))))
      (pss_cons (ps_set (i := 7) scFits.nd rfl (.inl rfl) (pe_op op_add_str (pe_slice sl_str (pv 1) (po_some (pv 2)) po_none) (pe_glob (v := .str (Str.ofString ".")) (by rfl) Z.g_WORD_END ⟨_, rfl⟩)))
      (pss_cons (ps_if (PW.pt (pw_or (pt_cmpR op_gt (pe_callB call_len (by rfl) B.len PySem.boot_len (pa_cons (pv 3) pa_nil)) (pe_callB call_len (by rfl) B.len PySem.boot_len (pa_cons (pv 6) pa_nil)) (nomark _)) (pw_or1 (pt_cmpR op_gt (pe_callB call_len (by rfl) B.len PySem.boot_len (pa_cons (pv 4) pa_nil)) (pe_callB call_len (by rfl) B.len PySem.boot_len (pa_cons (pv 7) pa_nil)) (nomark _)))))
      (pss_one (ps_ret pe_bl))
      pss_nil)
      (pss_one (ps_ret (pe_and (pe_call G_says hr (by rfl) g_says F_says.kp b_says .nil pass0 (pa_cons (pv 3) (pa_cons (pe_slice sl_str (pv 6) (po_some (pe_op op_sub (pe_callB call_len (by rfl) B.len PySem.boot_len (pa_cons (pv 6) pa_nil)) (pe_callB call_len (by rfl) B.len PySem.boot_len (pa_cons (pv 3) pa_nil)))) po_none) pa_nil))) (pe_one (pe_call G_says hr (by rfl) g_says F_says.kp b_says .nil pass0 (pa_cons (pv 4) (pa_cons (pe_slice sl_str (pv 7) po_none (po_some (pe_callB call_len (by rfl) B.len PySem.boot_len (pa_cons (pv 4) pa_nil)))) pa_nil))))))))))), ?_⟩
    have hsl : wd.length ≤ sizeLine := Nat.le_trans hw (by decide)
    have edl : (Str.ofString ".").length = 1 := by decide +kernel
    have etd : tl (Str.ofString ".") = [46] := by decide +kernel
    have eA : tl (cutS wd none (some (g : Int))) = (tl wd).take g := cut_to wd g
    have eB : tl (cutS wd (some (g : Int)) none) = (tl wd).drop g := cut_from wd g
    generalize hA : cutS wd none (some (g : Int)) = A at eA
    generalize hB : cutS wd (some (g : Int)) none = Bh at eB
    have lA : A.length ≤ 100 := by rw [← hA]; exact Nat.le_trans (cutS_length _ _ _) hw
    have lB : Bh.length ≤ 100 := by rw [← hB]; exact Nat.le_trans (cutS_length _ _ _) hw
    have eA2 : A.length = ((tl wd).take g).length := by rw [← eA, tl_len]
    have eB2 : Bh.length = ((tl wd).drop g).length := by rw [← eB, tl_len]
    have line : ∀ n : Nat, n ≤ 300 → n ≤ sizeLine := fun n h => Nat.le_trans h (by decide)
    refine ⟨.ref t, rfl, t, _, rfl, SqT.of ht, rfl, .str l, _, rfl, .str r, _, rfl, .bl b, _, rfl, rfl, ?_⟩
    refine ⟨.str wd, rfl, .int (g : Int), rfl, _, rfl, wd, rfl, hsl, ?_⟩
    rw [hA]
    refine ⟨_, _, rfl, rfl, line _ (by rw [edl]; omega), ?_⟩
    refine ⟨.str wd, rfl, .int (g : Int), rfl, _, rfl, wd, rfl, hsl, ?_⟩
    rw [hB]
    refine ⟨_, _, rfl, rfl, line _ (by rw [edl]; omega), ?_⟩
    have lb1 : (Str.ofString "." ++ A).length = A.length + 1 := by rw [len_add, edl, Nat.add_comm]
    have lb2 : (Bh ++ Str.ofString ".").length = Bh.length + 1 := by rw [len_add, edl]
    have el := tl_len l; have er := tl_len r
    refine ⟨.str l, rfl, .str l, l.length, rfl, ⟨line _ (by omega), rfl⟩, .str (Str.ofString "." ++ A), rfl, .str (Str.ofString "." ++ A), _, rfl, ⟨line _ (by omega), rfl⟩, _, _, rfl, rfl, _, rfl, ?_⟩
    have no : fitsB (tl l) (tl r) (tl wd) g = false → Q (.bl false) H := fun e => by have h := q H (Same.refl _); rw [e] at h; exact h
    have d1 : decide (((Str.ofString "." ++ A).length : Int) < (l.length : Int)) = decide (((tl wd).take g).length + 1 < (tl l).length) := by rw [lb1, eA2, el]; exact decide_eq_decide.mpr ⟨fun h => by omega, fun h => by omega⟩
    have d2 : decide (((Bh ++ Str.ofString ".").length : Int) < (r.length : Int)) = decide (((tl wd).drop g).length + 1 < (tl r).length) := by rw [lb2, eB2, er]; exact decide_eq_decide.mpr ⟨fun h => by omega, fun h => by omega⟩
    refine ite2 (fun h1 => iteT (no ?_)) (fun h1 => ⟨.str r, rfl, .str r, r.length, rfl, ⟨line _ (by omega), rfl⟩, .str (Bh ++ Str.ofString "."), rfl, .str (Bh ++ Str.ofString "."), _, rfl, ⟨line _ (by omega), rfl⟩, _, _, rfl, rfl, _, rfl, ite2 (fun h2 => no ?_) (fun h2 => ?_)⟩)
    · unfold fitsB
      rw [← d1, h1]; rfl
    · unfold fitsB
      rw [← d2, h2, Bool.or_true]; rfl
    have f1 : decide (((tl wd).take g).length + 1 < (tl l).length) = false := by rw [← d1]; simpa using h1
    have f2 : decide (((tl wd).drop g).length + 1 < (tl r).length) = false := by rw [← d2]; simpa using h2
    have g1 : (tl l).length ≤ ((tl wd).take g).length + 1 := by have := of_decide_eq_false f1; omega
    have e3 : ((((Str.ofString "." ++ A).length : Nat) : Int) - (l.length : Int)) = ((((tl wd).take g).length + 1 - (tl l).length : Nat) : Int) := by rw [lb1, eA2, el]; omega
    refine ⟨.str l, rfl, .str (Str.ofString "." ++ A), rfl, .str (Str.ofString "." ++ A), rfl, .str (Str.ofString "." ++ A), _, rfl, ⟨line _ (by omega), rfl⟩, .str l, rfl, .str l, l.length, rfl, ⟨line _ (by omega), rfl⟩, _, _, rfl, rfl, _, congrArg V.int e3, _, rfl, line _ (by omega), l, _, rfl, fun H2 s2 => ?_⟩
    rw [cut_from, tl_add, etd, eA]
    have fb : fitsB (tl l) (tl r) (tl wd) g = (saysZ (tl l) ((46 :: (tl wd).take g).drop (((tl wd).take g).length + 1 - (tl l).length)) && saysZ (tl r) (((tl wd).drop g ++ [46]).take (tl r).length)) := by
      unfold fitsB
      rw [f1, f2]; rfl
    rw [show ([46] ++ (tl wd).take g) = 46 :: (tl wd).take g from rfl]
    cases es : saysZ (tl l) ((46 :: (tl wd).take g).drop (((tl wd).take g).length + 1 - (tl l).length)) with
    | false =>
      rw [es, Bool.false_and] at fb
      have h := q H2 s2
      rw [fb] at h
      exact ⟨_, rfl, iteF h⟩
    | true =>
      rw [es, Bool.true_and] at fb
      refine ⟨_, rfl, iteT ⟨.str r, rfl, .str (Bh ++ Str.ofString "."), rfl, .str r, rfl, .str r, r.length, rfl, ⟨line _ (by omega), rfl⟩, _, rfl, _, rfl, line _ (by omega), r, _, rfl, fun H3 s3 => ?_⟩⟩
      rw [cut_to, tl_add, etd, eB, ← er, ← fb]
      exact q H3 (s2.trans s3)
end
end K29

set_option maxRecDepth 100000
set_option maxHeartbeats 4000000
namespace K29
open PySem PySem.Spec PyProof.Rows L2 RJ
abbrev Rw := Str × Str × Bool
structure Good (x : Rw) : Prop where
  l : x.1.length ≤ 3
  r : x.2.1.length ≤ 3
  pl : PartOk 0 (tl x.1)
  pr : PartOk ((x.2.1.length : Int) - 1) (tl x.2.1)
def TupAt (H : Hp) (v : V) (x : Rw) : Prop := ∃ t, v = .ref t ∧ H t = some (.tup [.str x.1, .str x.2.1, .bl x.2.2])
def RowsL (H : Hp) (vs : List V) (xs : List Rw) : Prop := vs.length = xs.length ∧ ∀ (i : Nat) (v : V) (x : Rw), vs[i]? = some v → xs[i]? = some x → TupAt H v x
theorem TupAt.mono {H H' : Hp} {v : V} {x : Rw} (h : TupAt H v x) (s : ∀ a ys, H a = some (.tup ys) → H' a = some (.tup ys)) : TupAt H' v x := let ⟨t, e, h⟩ := h; ⟨t, e, s _ _ h⟩
theorem RowsL.mono {H H' : Hp} {vs : List V} {xs : List Rw} (h : RowsL H vs xs) (s : ∀ a ys, H a = some (.tup ys) → H' a = some (.tup ys)) : RowsL H' vs xs := ⟨h.1, fun i v x a b => (h.2 i v x a b).mono s⟩
theorem RowsL.same {H H' : Hp} {vs : List V} {xs : List Rw} (h : RowsL H vs xs) (s : Same H H') : RowsL H' vs xs := h.mono fun a ys e => s _ _ e
theorem RowsL.nil {H : Hp} : RowsL H [] [] := ⟨rfl, fun i v c a _ => by simp at a⟩
theorem RowsL.snoc {H : Hp} {vs : List V} {cs : List Rw} {v : V} {c : Rw} (h : RowsL H vs cs) (hv : TupAt H v c) : RowsL H (vs ++ [v]) (cs ++ [c]) := by
  obtain ⟨hl, hi⟩ := h
  refine ⟨by simp [hl], fun i w d a b => ?_⟩
  by_cases hlt : i < vs.length
  · rw [List.getElem?_append_left hlt] at a
    rw [List.getElem?_append_left (by omega)] at b
    exact hi i w d a b
  · rw [List.getElem?_append_right (by omega)] at a
    rw [List.getElem?_append_right (by omega)] at b
    have e : i - vs.length = 0 := by
      have := (List.getElem?_eq_some_iff.mp a).1
      simp at this; omega
    rw [e] at a
    rw [show i - cs.length = 0 by omega] at b
    simp at a b; subst a b; exact hv
theorem RowsL.get {H : Hp} {vs : List V} {cs : List Rw} (h : RowsL H vs cs) {i : Nat} {v : V} (hv : vs[i]? = some v) : ∃ c, cs[i]? = some c ∧ TupAt H v c := by
  have hlt : i < cs.length := by have := (List.getElem?_eq_some_iff.mp hv).1; have := h.1; omega
  exact ⟨cs[i], by simp [hlt], h.2 i v _ hv (by simp [hlt])⟩
/-- the first that does -/
def first {α : Type} (f : α → Bool) : List α → Nat → Option Nat
  | [], _ => none
  | x :: xs, i => if f x = true then some i else first f xs (i + 1)
theorem first_some {α : Type} {f : α → Bool} {x : α} : ∀ {xs : List α} {i k : Nat}, (∀ j y, j < i → xs[j]? = some y → f y = false) → xs[i]? = some x → f x = true → first f xs k = some (k + i)
  | [], i, k, _, h, _ => by simp at h
  | y :: ys, 0, k, _, h, hx => by simp at h; subst h; unfold first; rw [if_pos hx]; rfl
  | y :: ys, i + 1, k, hn, h, hx => by
    unfold first
    rw [if_neg (by rw [hn 0 y (by omega) rfl]; exact Bool.false_ne_true), first_some (i := i) (fun j z hj hz => hn (j + 1) z (by omega) (by simpa using hz)) (by simpa using h) hx]
    congr 1; omega
theorem first_none {α : Type} {f : α → Bool} : ∀ {xs : List α} {k : Nat}, (∀ (j : Nat) y, xs[j]? = some y → f y = false) → first f xs k = none
  | [], k, _ => rfl
  | y :: ys, k, hn => by
    unfold first
    rw [if_neg (by rw [hn 0 y rfl]; exact Bool.false_ne_true), first_none fun j z hz => hn (j + 1) z (by simpa using hz)]
def ov : Option Nat → V
  | none => .non
  | some k => .int (k : Int)
/-- what decides -/
def dec (xs : List Rw) (w : List Nat) (g : Nat) : Option Nat := first (fun x => fitsB (tl x.1) (tl x.2.1) w g) xs 0
/-- a Joints at p with these lines and rows -/
structure FsOk (fs : List (Str × V)) (l1 l2 : Addr) : Prop where
  li : fs.lookup ("_lines" : Str) = some (.ref l1)
  ro : fs.lookup ("_rows" : Str) = some (.ref l2)
  de : fs.lookup ("decider" : Str) = none
  ij : fs.lookup ("is_joint" : Str) = none
  ga : fs.lookup ("gaps" : Str) = none
def JAt (C : Addr) (H : Hp) (p l1 l2 : Addr) (zs : List Str) (xs : List Rw) : Prop := ∃ dx fs us, H p = some (.ins C dx fs) ∧ FsOk fs l1 l2 ∧ H l1 = some (.lst (zs.map V.str)) ∧ H l2 = some (.lst us) ∧ RowsL H us xs
theorem JAt.same {C : Addr} {H H' : Hp} {p l1 l2 : Addr} {zs : List Str} {xs : List Rw} (h : JAt C H p l1 l2 zs xs) (s : Same H H') : JAt C H' p l1 l2 zs xs :=
  let ⟨dx, fs, us, h1, h2, h3, h4, h5⟩ := h; ⟨dx, fs, us, s _ _ h1, h2, s _ _ h3, s _ _ h4, h5.same s⟩
structure Txt (K : PySem.W.Frag) (mg : Str → Option Value) (C : Addr) : Prop where
  cl : Cls K C
  nL : NoAttr K C "_lines"
  nR : NoAttr K C "_rows"
  mgC : mg "Joints" = some (.ref C)
section
variable {P : Program} {w : World} {K : PySem.W.Frag} {mg : Str → Option Value} {base : Heap} {t1 t2 t3 t4 t5 : Tok}
/-! ### Joints.__init__ -/
def spInit (C : Addr) : Sp := fun vs H Q _ => ∃ (p dx a : Addr) (zs : List Str) (xs : List Rw), vs = [.ref p, .ref a] ∧ H p = some (.ins C dx []) ∧ H a = some (.lst (zs.map V.str)) ∧ zs.length ≤ 8 ∧ zs.length = xs.length ∧
  (∀ (i : Nat) z x, zs[i]? = some z → xs[i]? = some x → tl z = wrt (tl x.1) (tl x.2.1) x.2.2 ∧ Good x) ∧
  ∀ H' l1 l2, (∀ b o, b ≠ p → H b = some o → H' b = some o) → H l1 = none → H l2 = none → JAt C H' p l1 l2 zs xs → Q .non H'
theorem scInit : FnScope ["self", "lines", "line"] ["self", "lines"] (defScope sInit) := ⟨rfl, rfl, rfl, by decide +kernel, rfl, by decide +kernel, by decide +kernel⟩
theorem ok_init {C f f_is_letter f_is_part f_read_joint : Addr} {fd fd_is_letter fd_is_part fd_read_joint : FuncData} (B : Blt mg) (Z : Cst mg t1 t2 t3 t4 t5) (T : Txt K mg C) (F : Fun K "__init__" "Joints.__init__" sInit f fd)
    (F_is_letter : Fun K "is_letter" "is_letter" sLetter f_is_letter fd_is_letter) (b_is_letter : Binds K fd_is_letter ["char"] []) (g_is_letter : mg "is_letter" = some (.ref f_is_letter))
    (F_is_part : Fun K "_is_part" "_is_part" sPart f_is_part fd_is_part) (b_is_part : Binds K fd_is_part ["text", "end"] []) (g_is_part : mg "_is_part" = some (.ref f_is_part))
    (F_read_joint : Fun K "_read_joint" "_read_joint" sRead f_read_joint fd_read_joint) (b_read_joint : Binds K fd_read_joint ["line"] []) (g_read_joint : mg "_read_joint" = some (.ref f_read_joint)) :
    FnOk P w K mg base CX0 4 f fd ["self", "lines"] (spInit C) := by
  have G_read_joint : FnOk P w K mg base CX0 3 f_read_joint fd_read_joint ["line"] spRead := ok_read B Z F_read_joint F_is_letter b_is_letter g_is_letter F_is_part b_is_part g_is_part
  refine F.ok scInit (fun vs H Q E h => ?_) (fun cdv A0 outer s H vs Q E hr h => ?_)
  · obtain ⟨p, dx, a, zs, xs, rfl, _⟩ := h; rfl
  · obtain ⟨p, dx, a, zs, xs, rfl, hp, ha, h8, hlx, hall, q⟩ := h
    refine ⟨_, (pss_cons (ps_if (pt_cmpR op_gt (pe_callB call_len (by rfl) B.len PySem.boot_len (pa_cons (pv 1) pa_nil)) (pe_glob (v := .int 8) (by rfl) Z.g_MOST_JOINT_ROWS ⟨_, rfl⟩) (nomark _))
      (pss_one ps_never)
      pss_nil)
      (pss_cons (ps_fld (pv 0) (pe_callTy call_list_of (by rfl) B.list (by decide +kernel) (pa_cons (pv 1) pa_nil)) rfl)
      (pss_one (ps_fld (pv 0) (pe_lc (own := [("line", 2)]) (g := gName 2) (tt := tYes) rfl scInit.nd (pi_list (pv 1)) (blkOk_by (N := ["self", "lines", "line"]) (sc := defScope sInit) (by decide +kernel)) (fun _ _ _ _ _ => (pg_name (i := 2) scInit.nd rfl (.inl rfl))) (fun _ _ _ _ _ => pts_nil) (fun _ _ _ _ _ => (pe_call G_read_joint hr (by rfl) g_read_joint F_read_joint.kp b_read_joint .nil pass0 (pa_cons (pv 2) pa_nil)))) rfl)))), ?_⟩
    have npa : a ≠ p := ne_of ha hp (by intro z; cases z)
    refine ⟨.ref a, rfl, .ref a, (zs.map V.str).length, rfl, .inl ⟨_, SqL.of ha, rfl⟩, _, 8, rfl, rfl, _, rfl, ?_⟩
    rw [decide_eq_false (by rw [List.length_map]; omega)]
    refine iteF ⟨.ref a, rfl, a, _, rfl, .inl (SqL.of ha), fun l1 nl1 => ?_⟩
    have npl1 : p ≠ l1 := ne_of_none hp nl1
    have s1 : Same H (upd H l1 (.lst (zs.map V.str))) := same_new nl1
    refine ⟨.ref p, rfl, p, C, dx, [], rfl, s1 _ _ hp, T.cl, T.nL, (by show 0 < 1000; decide), ?_⟩
    have k1 : ∀ b o, b ≠ p → H b = some o → upd (upd H l1 (.lst (zs.map V.str))) p (.ins C dx (putF "_lines" (.ref l1) [])) b = some o := fun b o h e => by rw [upd_ne h]; exact s1 _ _ e
    have hp1 : upd (upd H l1 (.lst (zs.map V.str))) p (.ins C dx (putF "_lines" (.ref l1) [])) p = some (.ins C dx (putF "_lines" (.ref l1) [])) := upd_same
    have nn1 : ∀ b, upd (upd H l1 (.lst (zs.map V.str))) p (.ins C dx (putF "_lines" (.ref l1) [])) b = none → H b = none := fun b e => by
      by_cases hb : b = p
      · rw [hb, upd_same] at e; cases e
      · rw [upd_ne hb] at e; exact s1.free e
    have hl1 : upd (upd H l1 (.lst (zs.map V.str))) p (.ins C dx (putF "_lines" (.ref l1) [])) l1 = some (.lst (zs.map V.str)) := by rw [upd_ne (Ne.symm npl1), upd_same]
    generalize upd (upd H l1 (.lst (zs.map V.str))) p (.ins C dx (putF "_lines" (.ref l1) [])) = H1 at k1 hp1 nn1 hl1 ⊢
    have ha1 := k1 _ _ npa ha
    refine ⟨.ref a, rfl, a, rfl, ⟨_, SqL.of ha1⟩, fun D hD => ?_⟩
    refine lc_list (K := K) (a := a) (xs := zs.map V.str) (fun i H' => ∃ us, H' D = some (.lst us) ∧ us.length = i ∧ RowsL H' us (xs.take i) ∧ Same H1 H')
      ⟨[], upd_same, rfl, RowsL.nil, same_new hD⟩ (fun i H' _ ⟨_, _, _, _, s⟩ => SqL.of (s _ _ ha1)) ?_ ?_
    · rintro i x H' hi ⟨us, hD', hl, hrow, sm⟩
      rw [List.getElem?_map] at hi
      cases en : zs[i]? with
      | none => rw [en] at hi; cases hi
      | some z =>
        rw [en] at hi; cases hi
        have hilt := (List.getElem?_eq_some_iff.mp en).1
        have hxi : xs[i]? = some (xs[i]'(by omega)) := by simp
        obtain ⟨ew, gd⟩ := hall i z _ en hxi
        refine ⟨rfl, .str z, rfl, z, _, _, _, rfl, ew, gd.l, gd.r, gd.pl, gd.pr, fun H2 t s2 ht => ⟨us, s2 _ _ hD', ?_, us ++ [.ref t], upd_same, by rw [List.length_append, hl]; rfl, ?_, ?_⟩⟩
        · exact small1000 (by omega)
        · have st : ∀ a ys, H' a = some (.tup ys) → upd H2 D (.lst (us ++ [.ref t])) a = some (.tup ys) := fun a ys e => by
            rw [upd_ne (ne_of e hD' (by intro z; cases z))]; exact s2 _ _ e
          have e3 : xs.take (i + 1) = xs.take i ++ [xs[i]'(by omega)] := by rw [List.take_add_one, hxi]; rfl
          rw [e3]
          refine (hrow.mono st).snoc ⟨t, rfl, ?_⟩
          rw [upd_ne (ne_of ht (s2 _ _ hD') (by intro z; cases z))]; exact ht
        · exact same_at (sm.trans s2) hD
    · rintro H' ⟨us, hD', hl, hrow, sm⟩
      rw [List.length_map] at hl hrow
      rw [hlx, List.take_length] at hrow
      refine ⟨.ref p, rfl, p, C, dx, _, rfl, sm _ _ hp1, T.cl, T.nR, (by show 1 < 1000; decide), ?_⟩
      have npD : D ≠ p := Ne.symm (ne_of_none hp1 hD)
      refine q _ l1 D (fun b o h e => by rw [upd_ne h]; exact sm _ _ (k1 _ _ h e)) nl1 (nn1 _ hD) ⟨dx, _, us, upd_same, ⟨?_, ?_, ?_, ?_, ?_⟩, by rw [upd_ne (Ne.symm npl1)]; exact sm _ _ hl1, by rw [upd_ne npD]; exact hD', hrow.mono fun a ys e => ?_⟩
      · rw [lookup_putF, if_neg (by decide +kernel), lookup_putF, if_pos rfl]
      · rw [lookup_putF, if_pos rfl]
      · rw [lookup_putF, if_neg (by decide +kernel), lookup_putF, if_neg (by decide +kernel)]; rfl
      · rw [lookup_putF, if_neg (by decide +kernel), lookup_putF, if_neg (by decide +kernel)]; rfl
      · rw [lookup_putF, if_neg (by decide +kernel), lookup_putF, if_neg (by decide +kernel)]; rfl
      · rw [upd_ne (ne_of e (sm _ _ hp1) (by intro z; cases z))]; exact e
/-! ### Joints.decider -/
def spDec (C : Addr) : Sp := fun vs H Q _ => ∃ (p l1 l2 : Addr) (wd : Str) (g : Nat) (zs : List Str) (xs : List Rw), vs = [.ref p, .str wd, .int (g : Int)] ∧ JAt C H p l1 l2 zs xs ∧ (∀ x ∈ xs, Good x) ∧ wd.length ≤ 100 ∧ g ≤ wd.length ∧ ∀ H', Same H H' → Q (ov (dec xs (tl wd) g)) H'
theorem scDec : FnScope ["self", "word", "gap", "index", "row"] ["self", "word", "gap"] (defScope sDec) := ⟨rfl, rfl, rfl, by decide +kernel, rfl, by decide +kernel, by decide +kernel⟩
theorem ok_dec {C f f_is_letter f_says f_fits : Addr} {fd fd_is_letter fd_says fd_fits : FuncData} (B : Blt mg) (Z : Cst mg t1 t2 t3 t4 t5) (T : Txt K mg C) (F : Fun K "decider" "Joints.decider" sDec f fd)
    (F_is_letter : Fun K "is_letter" "is_letter" sLetter f_is_letter fd_is_letter) (b_is_letter : Binds K fd_is_letter ["char"] []) (g_is_letter : mg "is_letter" = some (.ref f_is_letter))
    (F_says : Fun K "_says" "_says" sSays f_says fd_says) (b_says : Binds K fd_says ["part", "text"] []) (g_says : mg "_says" = some (.ref f_says))
    (F_fits : Fun K "_fits" "_fits" sFits f_fits fd_fits) (b_fits : Binds K fd_fits ["row", "word", "gap"] []) (g_fits : mg "_fits" = some (.ref f_fits)) :
    FnOk P w K mg base CX0 4 f fd ["self", "word", "gap"] (spDec C) := by
  have G_fits : FnOk P w K mg base CX0 3 f_fits fd_fits ["row", "word", "gap"] spFits := ok_fits B Z F_fits F_is_letter b_is_letter g_is_letter F_says b_says g_says
  refine F.ok scDec (fun vs H Q E h => ?_) (fun cdv A0 outer s H vs Q E hr h => ?_)
  · obtain ⟨p, l1, l2, wd, g, zs, xs, rfl, _⟩ := h; rfl
  · obtain ⟨p, l1, l2, wd, g, zs, xs, rfl, ⟨dx, fs, us, hp, f1, hl1, hl2, hrow⟩, hgd, hw, hg, q⟩ := h
    refine ⟨_, (pss_cons (ps_for (PassesOwn.never) rfl (pi_enum (by rfl) B.enumerate (pa_cons (pe_fld (pv 0) rfl) pa_nil)) (pg_tup rfl (pgs_cons (pg_name (i := 3) scDec.nd rfl (.inl rfl)) (pgs_cons (pg_name (i := 4) scDec.nd rfl (.inl rfl)) pgs_nil)))
      (pss_one (ps_if (pt_val (pe_call G_fits hr (by rfl) g_fits F_fits.kp b_fits .nil pass0 (pa_cons (pv 4) (pa_cons (pv 1) (pa_cons (pv 2) pa_nil)))))
       (pss_one (ps_ret (pv 3)))
       pss_nil)))
      (pss_one (ps_ret pe_non))), ?_⟩
    refine ⟨.ref p, rfl, p, C, dx, fs, _, rfl, hp, T.cl, T.nR, f1.ro, l2, us, rfl, SqL.of hl2, ?_⟩
    refine for_enumL (fun i σ H' => ∃ y3 y4, σ = [some (.ref p), some (.str wd), some (.int (g : Int)), y3, y4] ∧ Same H H' ∧ ∀ (j : Nat) x, j < i → xs[j]? = some x → fitsB (tl x.1) (tl x.2.1) (tl wd) g = false) ⟨none, none, rfl, Same.refl _, fun j x h => absurd h (Nat.not_lt_zero j)⟩ (fun i σ H' ⟨_, _, _, s, _⟩ => SqL.of (s _ _ hl2)) ?_ ?_
    · rintro i v T σ H' hv ⟨y3, y4, rfl, sm, hno⟩ nT
      obtain ⟨x, hx, t, rfl, ht⟩ := hrow.get hv
      have gx := hgd x (List.mem_of_getElem? hx)
      refine ⟨T, _, rfl, SqT.of upd_same, rfl, .int (i : Nat), _, rfl, .ref t, _, rfl, rfl, ?_⟩
      have s2 : Same H (upd H' T (.tup [.int (i : Nat), .ref t])) := same_new2 sm nT
      refine ⟨.ref t, rfl, .str wd, rfl, .int (g : Int), rfl, t, x.1, x.2.1, wd, x.2.2, g, rfl, s2 _ _ ht, gx.l, gx.r, hw, hg, fun H3 s3 => ⟨_, rfl, ite2 (fun h => ?_) (fun h => ?_)⟩⟩
      · have e : dec xs (tl wd) g = some i := by
          have := first_some (k := 0) (f := fun x : Rw => fitsB (tl x.1) (tl x.2.1) (tl wd) g) (fun j y hj hy => hno j y hj hy) hx h
          rw [Nat.zero_add] at this; exact this
        have hq := q H3 (s2.trans s3)
        rw [e] at hq
        exact ⟨.int (i : Nat), rfl, hq⟩
      · refine ⟨_, _, rfl, s2.trans s3, fun j y hj hy => ?_⟩
        by_cases hji : j < i
        · exact hno j y hji hy
        · obtain rfl : j = i := by omega
          rw [hx] at hy; cases hy
          simpa using h
    · rintro σ H' ⟨y3, y4, rfl, sm, hno⟩
      have e : dec xs (tl wd) g = none := first_none fun j y hy => hno j y (by rw [hrow.1]; exact (List.getElem?_eq_some_iff.mp hy).1) hy
      have hq := q H' sm
      rw [e] at hq
      exact hq
end
end K29

set_option maxRecDepth 100000
set_option maxHeartbeats 4000000
namespace K29
open PySem PySem.Spec PyProof.Rows L2 RJ
/-- letters that the law draws from -/
structure Alpha (z : Str) : Prop where
  L : ∀ c ∈ tl z, isL c = true
  lo : 1 ≤ z.length
  hi : z.length ≤ 3
section
variable {P : Program} {w : World} {K : PySem.W.Frag} {mg : Str → Option Value} {base : Heap} {t1 t2 t3 t4 t5 : Tok}
theorem at1 {rs : List Int} {i : Nat} {g : Int} (h : rs[i]? = some g) : (rs.map V.int)[i]? = some (.int g) := by rw [List.getElem?_map, h]; rfl
/-! ### _law_letters -/
def spLetters : Sp := fun vs H Q _ => ∃ (c : Int), vs = [.int c] ∧ ∀ H' z, Same H H' → Alpha z → Q (.str z) H'
abbrev nLe : List Str := ["_law_cell_here", "_law_row_here", "_law_many", "_law_alphabet", "_law_out", "_law_letter", "_law_k"]
theorem scLetters : FnScope nLe ["_law_cell_here"] (defScope sLetters) := ⟨rfl, rfl, rfl, by decide +kernel, rfl, by decide +kernel, by decide +kernel⟩
theorem ok_letters {f f_row : Addr} {fd fd_row : FuncData} (B : Blt mg) (F : Fun K "_law_letters" "_law_letters" sLetters f fd)
    (F_row : Fun K "_law_row" "_law_row" sRow f_row fd_row) (b_row : Binds K fd_row ["_law_cell_here", "_law_limits"] []) (g_row : mg "_law_row" = some (.ref f_row)) :
    FnOk P w K mg base CX0 2 f fd ["_law_cell_here"] spLetters := by
  have G_row : FnOk P w K mg base CX0 1 f_row fd_row ["_law_cell_here", "_law_limits"] (spRow K) := ok_row B F_row
  refine F.ok scLetters (fun vs H Q E h => ?_) (fun cdv A0 outer s H vs Q E hr h => ?_)
  · obtain ⟨c, rfl, _⟩ := h; rfl
  · obtain ⟨c, rfl, q⟩ := h
    refine ⟨_, (pss_cons (ps_set (i := 1) scLetters.nd rfl (.inr rfl) (pe_call G_row hr (by rfl) g_row F_row.kp b_row .nil pass0 (pa_cons (pv 0) (pa_cons (pe_lst (pa_cons pe_int (pa_cons pe_int (pa_cons pe_int (pa_cons pe_int pa_nil))))) pa_nil))))
      (pss_cons (ps_set (i := 2) scLetters.nd rfl (.inl rfl) pe_int)
      (Evl.pss_cut (ps_if (pt_cmpR op_lt (pe_ix ix_list (pv 1) pe_int (fun _ _ => rfl)) pe_int (nomark _))
      (pss_one (ps_set (i := 2) scLetters.nd rfl (.inl rfl) (pe_op op_add pe_int (pe_op op_mul pe_int (pe_ix ix_list (pv 1) pe_int (fun _ _ => rfl))))))
      pss_nil)
      (pss_cons (ps_set (i := 3) scLetters.nd rfl (.inr rfl) pe_str)
      (pss_cons (ps_set (i := 4) scLetters.nd rfl (.inl rfl) pe_str)
      (pss_cons (ps_for (PassesOwn.never) rfl (pi_list (pe_callB cr_sortedS (by rfl) B.sorted (by decide +kernel) (pa_cons (pe_lc (own := [("_law_k", 6)]) (g := gName 6) (tt := tYes) rfl scLetters.nd (pi_range1 (by rfl) B.range (pa_cons (pv 2) pa_nil)) (blkOk_by (N := nLe) (sc := defScope sLetters) (by decide +kernel)) (fun _ _ _ _ _ => (pg_name (i := 6) scLetters.nd rfl (.inl rfl))) (fun _ _ _ _ _ => pts_nil) (fun _ _ _ _ _ => (pe_ix ix_str (pv 3) (pe_ix (show IxR _ (rIxL K) from ix_list) (pv 1) (pe_op op_add pe_int (pv 6)) (fun _ _ => rfl)) (fun _ _ => rfl)))) pa_nil))) (pg_name (i := 5) scLetters.nd rfl (.inl rfl))
      (pss_one (ps_if (pt_cmpR op_notIn_sign (pv 5) (pv 4) (by with_unfolding_all rfl))
       (pss_one (ps_set (i := 4) scLetters.nd rfl (.inl rfl) (pe_op op_add_str (pv 4) (pv 5))))
       pss_nil)))
      (pss_one (ps_ret (pv 4))))))))), ?_⟩
    refine ⟨.int c, rfl, (by show 4 ≤ sizeLine; decide), fun l nl => ?_⟩
    refine ⟨c, l, [12, 26, 26, 26], rfl, SqL.of (by rw [upd_same]; rfl), by decide, by decide, fun H1 R rs s1 nR eR hrow => ?_⟩
    have sA : Same H H1 := (same_new nl).trans s1
    obtain ⟨g0, a0, g00, g01⟩ := hrow.2 0 12 rfl
    have row26 : ∀ k : Nat, k < 3 → ∃ g, rs[1 + k]? = some g ∧ 0 ≤ g ∧ g < 26 := fun k hk => hrow.2 (1 + k) 26 (by match k, hk with | 0, _ => rfl | 1, _ => rfl | 2, _ => rfl)
    refine ⟨fun σ H' => ∃ m : Nat, σ = [some (.int c), some (.ref R), some (.int (m : Int)), none, none, none, none] ∧ H1 = H' ∧ 1 ≤ m ∧ m ≤ 3, ?_, ?_⟩
    · refine ⟨.ref R, rfl, R, _, 0, .int g0, rfl, rfl, SqL.of eR, atI_nat (j := 0) (at1 a0), g0, 2, rfl, rfl, _, rfl, ite2 (fun h => ?_) (fun h => ⟨2, rfl, rfl, by decide, by decide⟩)⟩
      have h' : g0 < 2 := of_decide_eq_true h
      refine ⟨.ref R, rfl, R, _, 0, .int g0, rfl, rfl, SqL.of eR, atI_nat (j := 0) (at1 a0), 2, g0, rfl, rfl, .inl ⟨by decide, by decide⟩, 1, _, rfl, rfl, ?_⟩
      refine ⟨(1 + 2 * g0).toNat, ?_, rfl, by omega, by omega⟩
      rw [show (((1 + 2 * g0).toNat : Nat) : Int) = 1 + 2 * g0 by omega]; rfl
    rintro σ _ ⟨m, rfl, rfl, hm1, hm3⟩
    refine ⟨.int (m : Int), rfl, (m : Int), rfl, by omega, by omega, fun D hD => ?_⟩
    rw [Int.toNat_natCast]
    refine lc_range (lo := 0) (n := m) (fun i H' => ∃ cs : List Nat, H' D = some (.lst ((cs.map fun c => (⟨#[c]⟩ : Str)).map V.str)) ∧ cs.length = i ∧ (∀ c ∈ cs, isL c = true) ∧ Same H1 H')
      ⟨[], upd_same, rfl, fun c h => absurd h List.not_mem_nil, same_new hD⟩ ?_ ?_
    · rintro i H' hi ⟨cs, hD', hl, hL, sm⟩
      obtain ⟨g, ag, gg0, gg1⟩ := row26 i (by omega)
      obtain ⟨cch, hc, hcm⟩ := pick (z := letters) gg0 (by rw [letters_len]; exact gg1)
      have e0 : (1 : Int) + (0 + (i : Int)) = ((1 + i : Nat) : Int) := by omega
      refine ⟨rfl, .str letters, rfl, .ref R, rfl, .int (0 + (i : Int)), rfl, 1, _, rfl, rfl, R, _, _, .int g, rfl, rfl, SqL.of (sm _ _ eR), by rw [e0]; exact atI_nat (at1 ag), letters, g, cch, rfl, rfl, by rw [letters_len]; decide, hc, _, hD', ?_, cs ++ [cch], ?_, ?_, ?_, same_at sm hD⟩
      · rw [List.length_map, List.length_map]; exact small1000 (by omega)
      · rw [upd_same, List.map_append, List.map_append]; rfl
      · rw [List.length_append, hl]; rfl
      · intro x hx
        rcases List.mem_append.mp hx with h | h
        · exact hL x h
        · rw [List.mem_singleton.mp h]; exact letters_L _ hcm
    · rintro H' ⟨cs, hD', hl, hL, sm⟩
      refine ⟨D, _, rfl, SqL.of hD', by rw [List.length_map]; omega, fun ys p hperm _ np => ?_⟩
      have hy : ∀ y ∈ ys, ∃ c, y = (⟨#[c]⟩ : Str) ∧ isL c = true := fun y hy => by
        have h1 := hperm.mem_iff.mp hy
        obtain ⟨c, hc, rfl⟩ := List.mem_map.mp h1
        exact ⟨c, rfl, hL c hc⟩
      have hyl : ys.length = m := by rw [hperm.length_eq, List.length_map, hl]
      have s3 : Same H' (upd H' p (.lst (ys.map V.str))) := same_new np
      have e3 : upd H' p (.lst (ys.map V.str)) p = some (.lst (ys.map V.str)) := upd_same
      generalize upd H' p (.lst (ys.map V.str)) = H3 at s3 e3 ⊢
      refine ⟨p, rfl, ⟨_, SqL.of e3⟩, for_list (K := K) (a := p) (xs := ys.map V.str) (fun i σ H'' => ∃ (z : Str) (y5 : Option V), σ = [some (.int c), some (.ref R), some (.int (m : Int)), some (.str letters), some (.str z), y5, none] ∧ H'' = H3 ∧ (∀ c ∈ tl z, isL c = true) ∧ z.length ≤ i ∧ (1 ≤ i → 1 ≤ z.length))
        ⟨Str.ofString "", none, rfl, rfl, by decide +kernel, by decide +kernel, fun h => by omega⟩ (fun i σ H'' _ ⟨_, _, _, e, _⟩ => by rw [e]; exact SqL.of e3) ?_ ?_⟩
      · rintro i x σ H'' hi ⟨z, y5, rfl, rfl, hzL, hzl, hz1⟩
        rw [List.getElem?_map] at hi
        cases en : ys[i]? with
        | none => rw [en] at hi; cases hi
        | some y =>
          rw [en] at hi; cases hi
          have hilt := (List.getElem?_eq_some_iff.mp en).1
          obtain ⟨cc, rfl, hcL⟩ := hy y (List.mem_of_getElem? en)
          refine ⟨.str ⟨#[cc]⟩, rfl, .str z, rfl, cc, z, rfl, rfl, _, rfl, ite2 (fun h => ?_) (fun h => ?_)⟩
          · refine ⟨.str z, rfl, .str ⟨#[cc]⟩, rfl, z, ⟨#[cc]⟩, rfl, rfl, ?_, ?_⟩
            · show z.length + 1 ≤ sizeLine
              exact Nat.le_trans (show z.length + 1 ≤ 10 by omega) (by decide)
            · refine ⟨_, _, rfl, rfl, ?_, by rw [len_add]; show z.length + 1 ≤ i + 1; omega, fun _ => by rw [len_add]; show 1 ≤ z.length + 1; omega⟩
              rw [tl_add]
              intro d hd
              rcases List.mem_append.mp hd with h | h
              · exact hzL d h
              · rw [List.mem_singleton.mp h]; exact hcL
          · refine ⟨z, _, rfl, rfl, hzL, by omega, fun _ => ?_⟩
            have hm : cc ∈ z.cps.toList := by simpa using h
            have : 0 < (tl z).length := List.length_pos_of_mem hm
            rw [tl_len] at this; omega
      · rintro σ H'' ⟨z, y5, rfl, rfl, hzL, hzl, hz1⟩
        rw [List.length_map] at hzl hz1
        exact ⟨.str z, rfl, q _ z (sA.trans (sm.trans s3)) ⟨hzL, hz1 (by omega), by omega⟩⟩
end
end K29

set_option maxRecDepth 100000
set_option maxHeartbeats 4000000
namespace K29
open PySem PySem.Spec PyProof.Rows L2 RJ
def isM (c : Nat) : Prop := isL c = true ∨ c = 63
theorem partM {e : Int} {l : List Nat} (h : ∀ c ∈ l, isM c) : PartOk e l := fun i c hc => by
  rcases h c (List.mem_of_getElem? hc) with h | h
  · exact .inl h
  · exact .inr (.inl h)
theorem part_dot {l : List Nat} (h : ∀ c ∈ l, isM c) : PartOk 0 (46 :: l.drop 1) := fun i c hc => by
  cases i with
  | zero => simp at hc; subst hc; exact .inr (.inr ⟨rfl, rfl⟩)
  | succ i =>
    have hm : c ∈ l := List.mem_of_mem_drop (List.mem_of_getElem? (by simpa using hc))
    rcases h c hm with h | h
    · exact .inl h
    · exact .inr (.inl h)
theorem part_end {l : List Nat} {n : Nat} (h : ∀ c ∈ l, isM c) (hn : l.length = n + 1) : PartOk (n : Int) (l.take n ++ [46]) := fun i c hc => by
  have hl : (l.take n).length = n := by rw [List.length_take]; omega
  by_cases hi : i < n
  · rw [List.getElem?_append_left (by omega)] at hc
    rcases h c (List.mem_of_mem_take (List.mem_of_getElem? hc)) with h | h
    · exact .inl h
    · exact .inr (.inl h)
  · rw [List.getElem?_append_right (by omega), hl] at hc
    have hlt := (List.getElem?_eq_some_iff.mp hc).1
    simp at hlt
    have e : i = n := by omega
    subst e
    simp at hc
    exact .inr (.inr ⟨hc.symm, rfl⟩)
theorem cut_neg1 (z : Str) : tl (cutS z none (some (-1))) = (tl z).take (z.length - 1) := by
  unfold cutS tl
  rw [HT.sIx_none]
  show (z.cps.toList.drop 0).take (HT.sIx z.length z.length (some (-1)) - 0) = _
  rw [List.drop_zero, Nat.sub_zero]
  congr 1
  show (if (-1 : Int) < 0 then ((-1 : Int) + (z.length : Int)).toNat else min (-1 : Int).toNat z.length) = z.length - 1
  rw [if_pos (by decide)]; omega
section
variable {P : Program} {w : World} {K : PySem.W.Frag} {mg : Str → Option Value} {base : Heap} {t1 t2 t3 t4 t5 : Tok}
def lsJ : List Int := [4, 4, 7, 7, 7, 7, 7, 7, 4, 4, 3, 26]
def spJoint : Sp := fun vs H Q _ => ∃ (c sh : Int) (z : Str), vs = [.int c, .str z, .int sh] ∧ Alpha z ∧ ∀ H' t x, Same H H' → H' t = some (.tup [.str x.1, .str x.2.1, .bl x.2.2]) → Good x → Q (.ref t) H'
abbrev nJ : List Str := ["_law_cell_here", "_law_letters_here", "_law_share", "_law_row_here", "_law_alphabet", "_law_menu", "_law_left", "_law_right", "_law_k"]
theorem scJoint : FnScope nJ ["_law_cell_here", "_law_letters_here", "_law_share"] (defScope sJoint) := ⟨rfl, rfl, rfl, by decide +kernel, rfl, by decide +kernel, by decide +kernel⟩
theorem ok_joint {f f_row : Addr} {fd fd_row : FuncData} (B : Blt mg) (F : Fun K "_law_joint" "_law_joint" sJoint f fd)
    (F_row : Fun K "_law_row" "_law_row" sRow f_row fd_row) (b_row : Binds K fd_row ["_law_cell_here", "_law_limits"] []) (g_row : mg "_law_row" = some (.ref f_row)) :
    FnOk P w K mg base CX0 2 f fd ["_law_cell_here", "_law_letters_here", "_law_share"] spJoint := by
  have G_row : FnOk P w K mg base CX0 1 f_row fd_row ["_law_cell_here", "_law_limits"] (spRow K) := ok_row B F_row
  refine F.ok scJoint (fun vs H Q E h => ?_) (fun cdv A0 outer s H vs Q E hr h => ?_)
  · obtain ⟨c, sh, z, rfl, _⟩ := h; rfl
  · obtain ⟨c, sh, z, rfl, hz, q⟩ := h
    refine ⟨_, (pss_cons (ps_set (i := 3) scJoint.nd rfl (.inr rfl) (pe_call G_row hr (by rfl) g_row F_row.kp b_row .nil pass0 (pa_cons (pv 0) (pa_cons (pe_lst (pa_cons pe_int (pa_cons pe_int (pa_cons pe_int (pa_cons pe_int (pa_cons pe_int (pa_cons pe_int (pa_cons pe_int (pa_cons pe_int (pa_cons pe_int (pa_cons pe_int (pa_cons pe_int (pa_cons pe_int pa_nil))))))))))))) pa_nil))))
      (pss_cons (ps_set (i := 4) scJoint.nd rfl (.inl rfl) pe_str)
      (pss_cons (ps_set (i := 5) scJoint.nd rfl (.inr rfl) (pe_op op_add_str (pv 1) (pv 1)))
      (pss_cons (ps_set (i := 5) scJoint.nd rfl (.inr rfl) (pe_op op_add_str (pe_op op_add_str (pe_slice sl_str (pe_op op_add_str (pv 5) (pv 5)) po_none (po_some pe_int)) pe_str) (pe_ix ix_str (pv 4) (pe_ix ix_list (pv 3) pe_int (fun _ _ => rfl)) (fun _ _ => rfl))))
      (pss_cons (ps_set (i := 6) scJoint.nd rfl (.inl rfl) (pe_join pe_str (pe_lc (own := [("_law_k", 8)]) (g := gName 8) (tt := tYes) rfl scJoint.nd (pi_range1 (by rfl) B.range (pa_cons (pe_ix ix_list (pv 3) pe_int (fun _ _ => rfl)) pa_nil)) (blkOk_by (N := nJ) (sc := defScope sJoint) (by decide +kernel)) (fun _ _ _ _ _ => (pg_name (i := 8) scJoint.nd rfl (.inl rfl))) (fun _ _ _ _ _ => pts_nil) (fun _ _ _ _ _ => (pe_ix ix_str (pv 5) (pe_ix (show IxR _ (rIxL K) from ix_list) (pv 3) (pe_op op_add pe_int (pv 8)) (fun _ _ => rfl)) (fun _ _ => rfl))))))
      (pss_cons (ps_set (i := 7) scJoint.nd rfl (.inl rfl) (pe_join pe_str (pe_lc (own := [("_law_k", 8)]) (g := gName 8) (tt := tYes) rfl scJoint.nd (pi_range1 (by rfl) B.range (pa_cons (pe_ix ix_list (pv 3) pe_int (fun _ _ => rfl)) pa_nil)) (blkOk_by (N := nJ) (sc := defScope sJoint) (by decide +kernel)) (fun _ _ _ _ _ => (pg_name (i := 8) scJoint.nd rfl (.inl rfl))) (fun _ _ _ _ _ => pts_nil) (fun _ _ _ _ _ => (pe_ix ix_str (pv 5) (pe_ix (show IxR _ (rIxL K) from ix_list) (pv 3) (pe_op op_add pe_int (pv 8)) (fun _ _ => rfl)) (fun _ _ => rfl))))))
      (Evl.pss_cut (ps_if (PW.pt (pw_and (pt_cmpR op_gt (pe_ix ix_list (pv 3) pe_int (fun _ _ => rfl)) pe_int (nomark _)) (pw_and1 (pt_cmpR op_eq (pe_ix ix_list (pv 3) pe_int (fun _ _ => rfl)) pe_int (nomark _)))))
      (pss_one (ps_set (i := 6) scJoint.nd rfl (.inl rfl) (pe_op op_add_str pe_str (pe_slice sl_str (pv 6) (po_some pe_int) po_none))))
      pss_nil)
      (Evl.pss_cut (ps_if (PW.pt (pw_and (pt_cmpR op_gt (pe_ix ix_list (pv 3) pe_int (fun _ _ => rfl)) pe_int (nomark _)) (pw_and1 (pt_cmpR op_eq (pe_ix ix_list (pv 3) pe_int (fun _ _ => rfl)) pe_int (nomark _)))))
      (pss_one (ps_set (i := 7) scJoint.nd rfl (.inl rfl) (pe_op op_add_str (pe_slice sl_str (pv 7) po_none (po_some (pe_un un_neg pe_int))) pe_str)))
      pss_nil)
      (pss_one (ps_ret (pe_tup (pa_cons (pv 6) (pa_cons (pv 7) (pa_cons (pe_cmpR op_lt (pe_ix ix_list (pv 3) pe_int (fun _ _ => rfl)) (pv 2) (nomark _)) pa_nil)))))))))))))), ?_⟩
    refine ⟨.int c, rfl, (by show 12 ≤ sizeLine; decide), fun l nl => ?_⟩
    refine ⟨c, l, lsJ, rfl, SqL.of (by rw [upd_same]; rfl), by decide, by decide, fun H1 R rs s1 nR eR hrow => ?_⟩
    have sA : Same H H1 := (same_new nl).trans s1
    obtain ⟨g0, a0, g00, g01⟩ := hrow.2 0 4 rfl
    obtain ⟨g1, a1, g10, g11⟩ := hrow.2 1 4 rfl
    obtain ⟨g8, a8, g80, g81⟩ := hrow.2 8 4 rfl
    obtain ⟨g9, a9, g90, g91⟩ := hrow.2 9 4 rfl
    obtain ⟨g10', a10, g100, g101⟩ := hrow.2 10 3 rfl
    obtain ⟨g11', a11, g110, g111⟩ := hrow.2 11 26 rfl
    have row7 : ∀ k : Nat, 2 ≤ k → k < 8 → ∃ g, rs[k]? = some g ∧ 0 ≤ g ∧ g < 7 := fun k h2 hk => hrow.2 k 7 (by match k, h2, hk with | 2, _, _ => rfl | 3, _, _ => rfl | 4, _, _ => rfl | 5, _, _ => rfl | 6, _, _ => rfl | 7, _, _ => rfl)
    obtain ⟨cc, hcc, hccm⟩ := pick (z := letters) g110 (by rw [letters_len]; exact g111)
    have line : ∀ n : Nat, n ≤ 300 → n ≤ sizeLine := fun n h => Nat.le_trans h (by decide)
    have z1 := hz.lo; have z3 := hz.hi
    have l2 : (z ++ z).length = z.length + z.length := len_add _ _
    have l4 : ((z ++ z) ++ (z ++ z)).length = (z ++ z).length + (z ++ z).length := len_add _ _
    refine ⟨.str z, rfl, .str z, rfl, z, z, rfl, rfl, line _ (by omega), .str (z ++ z), rfl, .str (z ++ z), rfl, z ++ z, z ++ z, rfl, rfl, line _ (by omega), _, rfl, _, rfl, line _ (by omega), ?_⟩
    have e4 : tl (cutS ((z ++ z) ++ (z ++ z)) none (some 4)) = (tl ((z ++ z) ++ (z ++ z))).take 4 := cut_to _ 4
    generalize cutS ((z ++ z) ++ (z ++ z)) none (some 4) = M4 at e4 ⊢
    have e4l : M4.length = 4 := by rw [← tl_len, e4, List.length_take, tl_len]; omega
    have e4m : ∀ c ∈ tl M4, isL c = true := fun c hc => by
      rw [e4] at hc
      have h := List.mem_of_mem_take hc
      rw [tl_add, tl_add] at h
      simp only [List.mem_append] at h
      exact hz.L c (by rcases h with (h | h) | (h | h) <;> exact h)
    have eqq : (Str.ofString "??").length = 2 := by decide +kernel
    have eqt : tl (Str.ofString "??") = [63, 63] := by decide +kernel
    have l6 : (M4 ++ Str.ofString "??").length = 6 := by rw [len_add, e4l, eqq]
    refine ⟨M4, Str.ofString "??", rfl, rfl, line _ (by rw [e4l, eqq]; decide), .str letters, rfl, .ref R, rfl, R, _, 11, .int g11', rfl, rfl, SqL.of eR, atI_nat (j := 11) (at1 a11), letters, g11', cc, rfl, rfl, by rw [letters_len]; decide, hcc, _, _, rfl, rfl, line _ (by rw [l6]; show 6 + 1 ≤ 300; decide), ?_⟩
    have eM : ∀ c ∈ tl (M4 ++ Str.ofString "??" ++ ⟨#[cc]⟩), isM c := fun c hc => by
      rw [tl_add, tl_add, eqt] at hc
      simp only [List.mem_append] at hc
      rcases hc with (h | h) | h
      · exact .inl (e4m c h)
      · simp at h; exact .inr h
      · rw [List.mem_singleton.mp h]; exact .inl (letters_L _ hccm)
    have eMl : (M4 ++ Str.ofString "??" ++ ⟨#[cc]⟩).length = 7 := by rw [len_add, l6]; rfl
    generalize M4 ++ Str.ofString "??" ++ ⟨#[cc]⟩ = M at eM eMl ⊢
    have elen : ∀ cs : List Nat, cs.length ≤ 3 → ((cs.map fun c => (⟨#[c]⟩ : Str)).map (·.length)).sum + (cs.map fun c => (⟨#[c]⟩ : Str)).length * (Str.ofString "").length ≤ 16777216 := fun cs h => by
      rw [sum_ones, show (Str.ofString "").length = 0 by decide +kernel, Nat.mul_zero]; omega
    -- left
    refine ⟨⟨_, rfl⟩, .ref R, rfl, R, _, 0, .int g0, rfl, rfl, SqL.of eR, atI_nat (j := 0) (at1 a0), g0, rfl, by omega, by omega, fun D hD => ?_⟩
    refine lc_range (lo := 0) (n := g0.toNat) (fun i H' => ∃ cs : List Nat, H' D = some (.lst ((cs.map fun c => (⟨#[c]⟩ : Str)).map V.str)) ∧ cs.length = i ∧ (∀ c ∈ cs, isM c) ∧ Same H1 H')
      ⟨[], upd_same, rfl, fun c h => absurd h List.not_mem_nil, same_new hD⟩ ?_ ?_
    · rintro i H' hi ⟨cs, hD', hl, hL, sm⟩
      obtain ⟨g, ag, gg0, gg1⟩ := row7 (2 + i) (by omega) (by omega)
      obtain ⟨cch, hc, hcm⟩ := pick (z := M) gg0 (by rw [eMl]; exact gg1)
      have e0 : (2 : Int) + (0 + (i : Int)) = ((2 + i : Nat) : Int) := by omega
      refine ⟨rfl, .str M, rfl, .ref R, rfl, .int (0 + (i : Int)), rfl, 2, _, rfl, rfl, R, _, _, .int g, rfl, rfl, SqL.of (sm _ _ eR), by rw [e0]; exact atI_nat (at1 ag), M, g, cch, rfl, rfl, by rw [eMl]; decide, hc, _, hD', ?_, cs ++ [cch], ?_, ?_, ?_, same_at sm hD⟩
      · rw [List.length_map, List.length_map]; exact small1000 (by omega)
      · rw [upd_same, List.map_append, List.map_append]; rfl
      · rw [List.length_append, hl]; rfl
      · intro x hx
        rcases List.mem_append.mp hx with h | h
        · exact hL x h
        · rw [List.mem_singleton.mp h]; exact eM _ hcm
    rintro H2 ⟨cs, hD', hl, hL, sm⟩
    refine ⟨_, D, _, rfl, rfl, .inl (SqL.of hD'), elen cs (by omega), ?_⟩
    have eJ := join_ones cs
    generalize hJ : Txt.join (Str.ofString "") (cs.map fun c => (⟨#[c]⟩ : Str)) = J at eJ
    have eR2 := sm _ _ eR
    -- right
    refine ⟨⟨_, rfl⟩, .ref R, rfl, R, _, 1, .int g1, rfl, rfl, SqL.of eR2, atI_nat (j := 1) (at1 a1), g1, rfl, by omega, by omega, fun D2 hD2 => ?_⟩
    refine lc_range (lo := 0) (n := g1.toNat) (fun i H' => ∃ ds : List Nat, H' D2 = some (.lst ((ds.map fun c => (⟨#[c]⟩ : Str)).map V.str)) ∧ ds.length = i ∧ (∀ c ∈ ds, isM c) ∧ Same H2 H')
      ⟨[], upd_same, rfl, fun c h => absurd h List.not_mem_nil, same_new hD2⟩ ?_ ?_
    · rintro i H' hi ⟨ds, hD2', hl2, hL2, sm2⟩
      obtain ⟨g, ag, gg0, gg1⟩ := row7 (5 + i) (by omega) (by omega)
      obtain ⟨cch, hc, hcm⟩ := pick (z := M) gg0 (by rw [eMl]; exact gg1)
      have e0 : (5 : Int) + (0 + (i : Int)) = ((5 + i : Nat) : Int) := by omega
      refine ⟨rfl, .str M, rfl, .ref R, rfl, .int (0 + (i : Int)), rfl, 5, _, rfl, rfl, R, _, _, .int g, rfl, rfl, SqL.of (sm2 _ _ eR2), by rw [e0]; exact atI_nat (at1 ag), M, g, cch, rfl, rfl, by rw [eMl]; decide, hc, _, hD2', ?_, ds ++ [cch], ?_, ?_, ?_, same_at sm2 hD2⟩
      · rw [List.length_map, List.length_map]; exact small1000 (by omega)
      · rw [upd_same, List.map_append, List.map_append]; rfl
      · rw [List.length_append, hl2]; rfl
      · intro x hx
        rcases List.mem_append.mp hx with h | h
        · exact hL2 x h
        · rw [List.mem_singleton.mp h]; exact eM _ hcm
    rintro H3 ⟨ds, hD2', hl2, hL2, sm2⟩
    refine ⟨_, D2, _, rfl, rfl, .inl (SqL.of hD2'), elen ds (by omega), ?_⟩
    have eJ2 := join_ones ds
    generalize hJ2 : Txt.join (Str.ofString "") (ds.map fun c => (⟨#[c]⟩ : Str)) = J2 at eJ2
    have eR3 := sm2 _ _ eR2
    have lJ : J.length = cs.length := by rw [← tl_len, eJ]
    have lJ2 : J2.length = ds.length := by rw [← tl_len, eJ2]
    have sB : Same H H3 := sA.trans (sm.trans sm2)
    have edl : (Str.ofString ".").length = 1 := by decide +kernel
    have etd : tl (Str.ofString ".") = [46] := by decide +kernel
    clear hD hD2 hD' hD2'
    -- the dots
    refine ⟨fun σ H' => ∃ L : Str, σ = [some (.int c), some (.str z), some (.int sh), some (.ref R), some (.str letters), some (.str M), some (.str L), some (.str J2), none] ∧ H3 = H' ∧ L.length ≤ 3 ∧ PartOk 0 (tl L), ?_, ?_⟩
    · have keep : J.length ≤ 3 ∧ PartOk 0 (tl J) := ⟨by omega, by rw [eJ]; exact partM hL⟩
      refine ⟨.ref R, rfl, R, _, 0, .int g0, rfl, rfl, SqL.of eR3, atI_nat (j := 0) (at1 a0), g0, 0, rfl, rfl, _, rfl, ite2 (fun h => ⟨.ref R, rfl, R, _, 8, .int g8, rfl, rfl, SqL.of eR3, atI_nat (j := 8) (at1 a8), rfl, _, rfl, ite2 (fun _ => ?_) (fun _ => ⟨J, rfl, rfl, keep⟩)⟩) (fun _ => ⟨J, rfl, rfl, keep⟩)⟩
      have h' : 0 < g0 := of_decide_eq_true h
      have ec : tl (cutS J (some 1) none) = (tl J).drop 1 := cut_from J 1
      have lc : (cutS J (some 1) none).length = cs.length - 1 := by rw [← tl_len, ec, List.length_drop, tl_len, lJ]
      refine ⟨.str J, rfl, _, rfl, J, rfl, line _ (by omega), _, _, rfl, rfl, line _ (by rw [edl, lc]; omega), ?_⟩
      refine ⟨_, rfl, rfl, by rw [len_add, edl, lc]; omega, ?_⟩
      rw [tl_add, etd, ec, eJ]
      exact part_dot hL
    rintro σ _ ⟨L, rfl, rfl, hL3, hLp⟩
    refine ⟨fun σ H' => ∃ Rr : Str, σ = [some (.int c), some (.str z), some (.int sh), some (.ref R), some (.str letters), some (.str M), some (.str L), some (.str Rr), none] ∧ H3 = H' ∧ Rr.length ≤ 3 ∧ PartOk ((Rr.length : Int) - 1) (tl Rr), ?_, ?_⟩
    · have keep : J2.length ≤ 3 ∧ PartOk ((J2.length : Int) - 1) (tl J2) := ⟨by omega, by rw [eJ2]; exact partM hL2⟩
      refine ⟨.ref R, rfl, R, _, 1, .int g1, rfl, rfl, SqL.of eR3, atI_nat (j := 1) (at1 a1), g1, 0, rfl, rfl, _, rfl, ite2 (fun h => ⟨.ref R, rfl, R, _, 9, .int g9, rfl, rfl, SqL.of eR3, atI_nat (j := 9) (at1 a9), rfl, _, rfl, ite2 (fun _ => ?_) (fun _ => ⟨J2, rfl, rfl, keep⟩)⟩) (fun _ => ⟨J2, rfl, rfl, keep⟩)⟩
      have h' : 0 < g1 := of_decide_eq_true h
      obtain ⟨n, hn⟩ : ∃ n, ds.length = n + 1 := ⟨ds.length - 1, by omega⟩
      have ec : tl (cutS J2 none (some (-1))) = (tl J2).take n := by rw [cut_neg1, lJ2, hn]; rfl
      have lc : (cutS J2 none (some (-1))).length = n := by rw [← tl_len, ec, List.length_take, tl_len, lJ2]; omega
      refine ⟨.str J2, rfl, 1, rfl, _, rfl, J2, rfl, line _ (by omega), _, _, rfl, rfl, line _ (by rw [edl, lc]; omega), ?_⟩
      have ll : (cutS J2 none (some (-1)) ++ Str.ofString ".").length = n + 1 := by rw [len_add, edl, lc]
      refine ⟨_, rfl, rfl, by rw [ll]; omega, ?_⟩
      rw [ll, tl_add, etd, ec, eJ2, show ((n + 1 : Nat) : Int) - 1 = (n : Int) by omega]
      exact part_end hL2 hn
    rintro σ _ ⟨Rr, rfl, rfl, hR3, hRp⟩
    refine ⟨.str L, rfl, .str Rr, rfl, .ref R, rfl, R, _, 10, .int g10', rfl, rfl, SqL.of eR3, atI_nat (j := 10) (at1 a10), .int sh, rfl, g10', sh, rfl, rfl, (by show 3 ≤ sizeLine; decide), fun t nt => ?_⟩
    exact q _ t (L, Rr, decide (g10' < sh)) (sB.trans (same_new nt)) upd_same ⟨hL3, hR3, hLp, hRp⟩
/-! ### _law_written -/
def spWritten : Sp := fun vs H Q _ => ∃ (t : Addr) (x : Rw), vs = [.ref t] ∧ H t = some (.tup [.str x.1, .str x.2.1, .bl x.2.2]) ∧ Good x ∧ ∀ z : Str, tl z = wrt (tl x.1) (tl x.2.1) x.2.2 → Q (.str z) H
theorem scWritten : FnScope ["_law_row_here"] ["_law_row_here"] (defScope sWritten) := ⟨rfl, rfl, rfl, by decide +kernel, rfl, by decide +kernel, by decide +kernel⟩
theorem ok_written {f : Addr} {fd : FuncData} (F : Fun K "_law_written" "_law_written" sWritten f fd) : FnOk P w K mg base CX0 1 f fd ["_law_row_here"] spWritten := by
  refine F.ok scWritten (fun vs H Q E h => ?_) (fun cdv A0 outer s H vs Q E hr h => ?_)
  · obtain ⟨t, x, rfl, _⟩ := h; rfl
  · obtain ⟨t, ⟨l, r, b⟩, rfl, ht, gd, q⟩ := h
    refine ⟨_, (pss_cons (ps_if (pt_val (pe_ix ix_tup (pv 0) pe_int (fun _ _ => rfl)))
      (pss_one (ps_ret (pe_op op_add_str (pe_op op_add_str (pe_op op_add_str (pe_ix ix_tup (pv 0) pe_int (fun _ _ => rfl)) pe_str) (pe_ix ix_tup (pv 0) pe_int (fun _ _ => rfl))) pe_str)))
      pss_nil)
      (pss_one (ps_ret (pe_op op_add_str (pe_op op_add_str (pe_ix ix_tup (pv 0) pe_int (fun _ _ => rfl)) pe_str) (pe_ix ix_tup (pv 0) pe_int (fun _ _ => rfl)))))), ?_⟩
    have ht' : H t = some (.tup [.str l, .str r, .bl b]) := ht
    have hl : l.length ≤ 3 := gd.l
    have hrl : r.length ≤ 3 := gd.r
    have line : ∀ n : Nat, n ≤ 300 → n ≤ sizeLine := fun n h => Nat.le_trans h (by decide)
    have ed : (Str.ofString "-").length = 1 := by decide +kernel
    have en : (Str.ofString " no").length = 3 := by decide +kernel
    have etd : tl (Str.ofString "-") = [45] := by decide +kernel
    have etn : tl (Str.ofString " no") = [32, 110, 111] := by decide +kernel
    have l1 : (l ++ Str.ofString "-").length = l.length + 1 := by rw [len_add, ed]
    have l2 : (l ++ Str.ofString "-" ++ r).length = l.length + 1 + r.length := by rw [len_add, l1]
    refine ⟨.ref t, rfl, t, _, 2, .bl b, rfl, rfl, SqT.of ht', atI_nat (j := 2) rfl, b, rfl, ite2 (fun h => ?_) (fun h => ?_)⟩
    · refine ⟨.ref t, rfl, t, _, 0, .str l, rfl, rfl, SqT.of ht', atI_nat (j := 0) rfl, _, _, rfl, rfl, line _ (by rw [ed]; omega), .ref t, rfl, t, _, 1, .str r, rfl, rfl, SqT.of ht', atI_nat (j := 1) rfl, _, _, rfl, rfl, line _ (by rw [l1]; omega), _, _, rfl, rfl, line _ (by rw [l2, en]; omega), q _ ?_⟩
      rw [tl_add, tl_add, tl_add, etd, etn, h]
      simp [wrt, noL]
    · have hb : b = false := by simpa using h
      refine ⟨.ref t, rfl, t, _, 0, .str l, rfl, rfl, SqT.of ht', atI_nat (j := 0) rfl, _, _, rfl, rfl, line _ (by rw [ed]; omega), .ref t, rfl, t, _, 1, .str r, rfl, rfl, SqT.of ht', atI_nat (j := 1) rfl, _, _, rfl, rfl, line _ (by rw [l1]; omega), q _ ?_⟩
      rw [tl_add, tl_add, etd, hb]
      simp [wrt, noL]
end
end K29

set_option maxRecDepth 100000
set_option maxHeartbeats 4000000
namespace K29
open PySem PySem.Spec PyProof.Rows L2 RJ
def okd (w c : Nat) : Bool := decide (w = c) || (decide (w = 63) && !decide (c = 46))
def saysD : List Nat → List Nat → Bool
  | w :: ws, c :: cs => okd w c && saysD ws cs
  | _, _ => true
def lsays (a b : List Nat) : Bool := decide (a.length = b.length) && saysD a b
theorem okd_okc {w c : Nat} (h : isL c = true ∨ c = 46) : okd w c = okc w c := by
  unfold okd okc
  rcases h with h | h
  · have : c ≠ 46 := fun e => by subst e; exact absurd h (by decide)
    rw [h, decide_eq_false this]; rfl
  · subst h; rfl
theorem saysD_Z : ∀ {a b : List Nat}, (∀ c ∈ b, isL c = true ∨ c = 46) → saysD a b = saysZ a b
  | [], _, _ => by cases ‹List Nat› <;> rfl
  | w :: ws, [], _ => rfl
  | w :: ws, c :: cs, h => by
    have h1 := saysD_Z (a := ws) (b := cs) fun d hd => h d (List.mem_cons_of_mem _ hd)
    show (okd w c && saysD ws cs) = (okc w c && saysZ ws cs)
    rw [h1, okd_okc (h c List.mem_cons_self)]
theorem saysD_drop {a b : List Nat} {i x y : Nat} (h1 : a[i]? = some x) (h2 : b[i]? = some y) : saysD (a.drop i) (b.drop i) = (okd x y && saysD (a.drop (i + 1)) (b.drop (i + 1))) := by
  obtain ⟨l1, e1⟩ := List.getElem?_eq_some_iff.mp h1
  obtain ⟨l2, e2⟩ := List.getElem?_eq_some_iff.mp h2
  rw [List.drop_eq_getElem_cons l1, List.drop_eq_getElem_cons l2, e1, e2]; rfl
/-- the two ways to say that a row fits -/
theorem fits_eq {l r w : List Nat} {g : Nat} (hw : ∀ c ∈ w, isL c = true) (h1 : ¬ (w.take g).length + 1 < l.length) :
    fitsB l r w g = (lsays l ((46 :: w.take g).drop ((w.take g).length + 1 - l.length)) && lsays r ((w.drop g ++ [46]).take r.length)) := by
  have m1 : ∀ c ∈ (46 :: w.take g).drop ((w.take g).length + 1 - l.length), isL c = true ∨ c = 46 := fun c hc => by
    rcases List.mem_cons.mp (List.mem_of_mem_drop hc) with h | h
    · exact .inr h
    · exact .inl (hw c (List.mem_of_mem_take h))
  have m2 : ∀ c ∈ (w.drop g ++ [46]).take r.length, isL c = true ∨ c = 46 := fun c hc => by
    rcases List.mem_append.mp (List.mem_of_mem_take hc) with h | h
    · exact .inl (hw c (List.mem_of_mem_drop h))
    · exact .inr (List.mem_singleton.mp h)
  have e1 : decide (l.length = ((46 :: w.take g).drop ((w.take g).length + 1 - l.length)).length) = true := decide_eq_true (by rw [List.length_drop, List.length_cons]; omega)
  have e2 : decide (r.length = ((w.drop g ++ [46]).take r.length).length) = !decide ((w.drop g).length + 1 < r.length) := by
    rw [List.length_take, List.length_append, List.length_singleton]
    by_cases h : (w.drop g).length + 1 < r.length
    · rw [decide_eq_true h, decide_eq_false (by omega)]; rfl
    · rw [decide_eq_false h, decide_eq_true (by omega)]; rfl
  unfold lsays fitsB
  rw [saysD_Z m1, saysD_Z m2, e1, e2, decide_eq_false h1, Bool.false_or, Bool.true_and]
  generalize decide ((w.drop g).length + 1 < r.length) = x
  generalize saysZ l _ = y
  generalize saysZ r _ = z
  cases x <;> cases y <;> cases z <;> rfl
section
variable {P : Program} {w : World} {K : PySem.W.Frag} {mg : Str → Option Value} {base : Heap} {t1 t2 t3 t4 t5 : Tok}
theorem atS {z : Str} {i c : Nat} (h : (tl z)[i]? = some c) : atI z.cps.toList ((i : Nat) : Int) = some c := atI_nat h
/-! ### _law_says -/
def spLSays : Sp := fun vs H Q _ => ∃ (a b : Str), vs = [.str a, .str b] ∧ a.length ≤ 200 ∧ b.length ≤ 200 ∧ Q (.bl (lsays (tl a) (tl b))) H
theorem scLSays : FnScope ["_law_part", "_law_text", "_law_k"] ["_law_part", "_law_text"] (defScope sLSays) := ⟨rfl, rfl, rfl, by decide +kernel, rfl, by decide +kernel, by decide +kernel⟩
theorem ok_lsays {f : Addr} {fd : FuncData} (B : Blt mg) (F : Fun K "_law_says" "_law_says" sLSays f fd) : FnOk P w K mg base CX0 1 f fd ["_law_part", "_law_text"] spLSays := by
  refine F.ok scLSays (fun vs H Q E h => ?_) (fun cdv A0 outer s H vs Q E hr h => ?_)
  · obtain ⟨a, b, rfl, _⟩ := h; rfl
  · obtain ⟨a, b, rfl, ha, hb, q⟩ := h
    refine ⟨_, (pss_cons (ps_if (pt_cmpR op_ne (pe_callB call_len (by rfl) B.len PySem.boot_len (pa_cons (pv 0) pa_nil)) (pe_callB call_len (by rfl) B.len PySem.boot_len (pa_cons (pv 1) pa_nil)) (nomark _))
      (pss_one (ps_ret pe_bl))
      pss_nil)
      (pss_cons (ps_for (PassesOwn.never) rfl (pi_range1 (by rfl) B.range (pa_cons (pe_callB call_len (by rfl) B.len PySem.boot_len (pa_cons (pv 0) pa_nil)) pa_nil)) (pg_name (i := 2) scLSays.nd rfl (.inl rfl))
      (pss_one (ps_if (PW.pt (pw_and (pt_cmpR op_ne (pe_ix ix_str (pv 0) (pv 2) (fun _ _ => rfl)) (pe_ix ix_str (pv 1) (pv 2) (fun _ _ => rfl)) (nomark _)) (pw_and1 (PW.pt (pw_or (pt_cmpR op_ne (pe_ix ix_str (pv 0) (pv 2) (fun _ _ => rfl)) pe_str (nomark _)) (pw_or1 (pt_cmpR op_eq (pe_ix ix_str (pv 1) (pv 2) (fun _ _ => rfl)) pe_str (nomark _))))))))
       (pss_one (ps_ret pe_bl))
       pss_nil)))
      (pss_one (ps_ret pe_bl)))), ?_⟩
    have la : a.length ≤ sizeLine := Nat.le_trans ha (by decide)
    have lb : b.length ≤ sizeLine := Nat.le_trans hb (by decide)
    have ea := tl_len a; have eb := tl_len b
    refine ⟨.str a, rfl, .str a, a.length, rfl, ⟨la, rfl⟩, .str b, rfl, .str b, b.length, rfl, ⟨lb, rfl⟩, rfl, _, rfl, ?_⟩
    rw [eqI]
    refine ite2 (fun h => ?_) (fun h => ?_)
    · have hne : ¬ (a.length : Int) = (b.length : Int) := by simpa using h
      unfold lsays at q
      rw [decide_eq_false (by omega), Bool.false_and] at q
      exact q
    have hl : a.length = b.length := by
      have : (a.length : Int) = (b.length : Int) := by simpa using h
      omega
    unfold lsays at q
    rw [decide_eq_true (by omega), Bool.true_and] at q
    refine ⟨.str a, rfl, .str a, a.length, rfl, ⟨la, rfl⟩, (a.length : Int), rfl, by omega, by omega, ?_⟩
    rw [Int.toNat_natCast]
    refine for_range (lo := 0) (n := a.length) (fun i σ H' => ∃ y2, σ = [some (.str a), some (.str b), y2] ∧ H = H' ∧ saysD (tl a) (tl b) = saysD ((tl a).drop i) ((tl b).drop i)) ⟨none, rfl, rfl, rfl⟩ ?_ ?_
    · rintro i σ H' hi ⟨y2, rfl, rfl, hs⟩
      have e0 : (0 : Int) + (i : Int) = (i : Int) := by omega
      rw [e0]
      have hc : (tl a)[i]? = some ((tl a)[i]'(by omega)) := List.getElem?_eq_getElem _
      have hd : (tl b)[i]? = some ((tl b)[i]'(by omega)) := List.getElem?_eq_getElem _
      generalize (tl a)[i]'(by omega) = c at hc
      generalize (tl b)[i]'(by omega) = d at hd
      have hk := saysD_drop hc hd
      have go : okd c d = true → ∃ y2, ([some (V.str a), some (V.str b), some (V.int (i : Int))] : L2.St) = [some (.str a), some (.str b), y2] ∧ H = H ∧ saysD (tl a) (tl b) = saysD ((tl a).drop (i + 1)) ((tl b).drop (i + 1)) := fun ho => ⟨_, rfl, rfl, by rw [hs, hk, ho, Bool.true_and]⟩
      have no : okd c d = false → Q (.bl false) H := fun ho => by
        rw [hs, hk, ho, Bool.false_and] at q; exact q
      refine ⟨.str a, rfl, .int (i : Int), rfl, a, (i : Int), c, rfl, rfl, la, atS hc, .str b, rfl, .int (i : Int), rfl, b, (i : Int), d, rfl, rfl, lb, atS hd, rfl, _, rfl, ?_⟩
      rw [eqS]
      refine ite2 (fun h1 => ?_) (fun h1 => go (by unfold okd; simp at h1; simp [h1]))
      have f1 : ¬ c = d := by simpa using h1
      refine ⟨.str a, rfl, .int (i : Int), rfl, a, (i : Int), c, rfl, rfl, la, atS hc, rfl, _, rfl, ?_⟩
      rw [eQ, eqS]
      refine ite2 (fun h2 => iteT (no ?_)) (fun h2 => ⟨.str b, rfl, .int (i : Int), rfl, b, (i : Int), d, rfl, rfl, lb, atS hd, rfl, _, rfl, ?_⟩)
      · have f2 : ¬ c = 63 := by simpa using h2
        unfold okd; simp [f1, f2]
      · have f2 : c = 63 := by simpa using h2
        rw [eD, eqS]
        refine ite2 (fun h3 => no ?_) (fun h3 => go ?_)
        · have f3 : d = 46 := by simpa using h3
          unfold okd; rw [decide_eq_false f1, decide_eq_true f3]; simp
        · have f3 : ¬ d = 46 := by simpa using h3
          unfold okd; simp [f2, f3]
    · rintro σ H' ⟨y2, rfl, rfl, hs⟩
      rw [hs, ← ea, List.drop_length] at q
      have : saysD [] ((tl b).drop (tl a).length) = true := by cases (tl b).drop (tl a).length <;> rfl
      rw [this] at q
      exact q
/-! ### _law_fits -/
def spLFits : Sp := fun vs H Q _ => ∃ (t : Addr) (l r wd : Str) (b : Bool) (g : Nat), vs = [.ref t, .str wd, .int (g : Int)] ∧ H t = some (.tup [.str l, .str r, .bl b]) ∧ l.length ≤ 3 ∧ r.length ≤ 3 ∧ wd.length ≤ 100 ∧ (∀ c ∈ tl wd, isL c = true) ∧ Q (.bl (fitsB (tl l) (tl r) (tl wd) g)) H
theorem scLFits : FnScope ["_law_row_here", "_law_word_here", "_law_gap", "_law_before", "_law_behind", "_law_start"] ["_law_row_here", "_law_word_here", "_law_gap"] (defScope sLFits) := ⟨rfl, rfl, rfl, by decide +kernel, rfl, by decide +kernel, by decide +kernel⟩
theorem ok_lfits {f f_says : Addr} {fd fd_says : FuncData} (B : Blt mg) (F : Fun K "_law_fits" "_law_fits" sLFits f fd)
    (F_says : Fun K "_law_says" "_law_says" sLSays f_says fd_says) (b_says : Binds K fd_says ["_law_part", "_law_text"] []) (g_says : mg "_law_says" = some (.ref f_says)) :
    FnOk P w K mg base CX0 2 f fd ["_law_row_here", "_law_word_here", "_law_gap"] spLFits := by
  have G_says : FnOk P w K mg base CX0 1 f_says fd_says ["_law_part", "_law_text"] spLSays := ok_lsays B F_says
  refine F.ok scLFits (fun vs H Q E h => ?_) (fun cdv A0 outer s H vs Q E hr h => ?_)
  · obtain ⟨t, l, r, wd, b, g, rfl, _⟩ := h; rfl
  · obtain ⟨t, l, r, wd, b, g, rfl, ht, hl, hrl, hw, hL, q⟩ := h
    refine ⟨_, (pss_cons (ps_set (i := 3) scLFits.nd rfl (.inl rfl) (pe_op op_add_str pe_str (pe_slice sl_str (pv 1) po_none (po_some (pv 2)))))
      (pss_cons (ps_set (i := 4) scLFits.nd rfl (.inl rfl) (pe_op op_add_str (pe_slice sl_str (pv 1) (po_some (pv 2)) po_none) pe_str))
      (pss_cons (ps_set (i := 5) scLFits.nd rfl (.inl rfl) (pe_op op_sub (pe_callB call_len (by rfl) B.len PySem.boot_len (pa_cons (pv 3) pa_nil)) (pe_callB call_len (by rfl) B.len PySem.boot_len (pa_cons (pe_ix ix_tup (pv 0) pe_int (fun _ _ => rfl)) pa_nil))))
      (pss_cons (ps_if (PW.pt (pw_or (pt_cmpR op_lt (pv 5) pe_int (nomark _)) (pw_or1 (pt_not (pt_val (pe_call G_says hr (by rfl) g_says F_says.kp b_says .nil pass0 (pa_cons (pe_ix ix_tup (pv 0) pe_int (fun _ _ => rfl)) (pa_cons (pe_slice sl_str (pv 3) (po_some (pv 5)) po_none) pa_nil))))))))
      (pss_one (ps_ret pe_bl))
      pss_nil)
      (pss_one (ps_ret (pe_call G_says hr (by rfl) g_says F_says.kp b_says .nil pass0 (pa_cons (pe_ix ix_tup (pv 0) pe_int (fun _ _ => rfl)) (pa_cons (pe_slice sl_str (pv 4) po_none (po_some (pe_callB call_len (by rfl) B.len PySem.boot_len (pa_cons (pe_ix ix_tup (pv 0) pe_int (fun _ _ => rfl)) pa_nil)))) pa_nil))))))))), ?_⟩
    have hsl : wd.length ≤ sizeLine := Nat.le_trans hw (by decide)
    have edl : (Str.ofString ".").length = 1 := by decide +kernel
    have etd : tl (Str.ofString ".") = [46] := by decide +kernel
    have eA : tl (cutS wd none (some (g : Int))) = (tl wd).take g := cut_to wd g
    have eB : tl (cutS wd (some (g : Int)) none) = (tl wd).drop g := cut_from wd g
    generalize hA : cutS wd none (some (g : Int)) = A at eA
    generalize hB : cutS wd (some (g : Int)) none = Bh at eB
    have lA : A.length ≤ 100 := by rw [← hA]; exact Nat.le_trans (cutS_length _ _ _) hw
    have lB : Bh.length ≤ 100 := by rw [← hB]; exact Nat.le_trans (cutS_length _ _ _) hw
    have eA2 : A.length = ((tl wd).take g).length := by rw [← eA, tl_len]
    have line : ∀ n : Nat, n ≤ 300 → n ≤ sizeLine := fun n h => Nat.le_trans h (by decide)
    refine ⟨.str wd, rfl, .int (g : Int), rfl, _, rfl, wd, rfl, hsl, ?_⟩
    rw [hA]
    refine ⟨_, _, rfl, rfl, line _ (by rw [edl]; omega), ?_⟩
    refine ⟨.str wd, rfl, .int (g : Int), rfl, _, rfl, wd, rfl, hsl, ?_⟩
    rw [hB]
    refine ⟨_, _, rfl, rfl, line _ (by rw [edl]; omega), ?_⟩
    have lb1 : (Str.ofString "." ++ A).length = A.length + 1 := by rw [len_add, edl, Nat.add_comm]
    have lb2 : (Bh ++ Str.ofString ".").length = Bh.length + 1 := by rw [len_add, edl]
    have el := tl_len l; have er := tl_len r
    refine ⟨.str (Str.ofString "." ++ A), rfl, .str (Str.ofString "." ++ A), _, rfl, ⟨line _ (by omega), rfl⟩, .ref t, rfl, t, _, 0, .str l, rfl, rfl, SqT.of ht, atI_nat (j := 0) rfl, .str l, l.length, rfl, ⟨line _ (by omega), rfl⟩, _, _, rfl, rfl, ?_⟩
    refine ⟨_, rfl, _, 0, rfl, rfl, _, rfl, ite2 (fun h1 => iteT ?_) (fun h1 => ?_)⟩
    · have h1' : ((Str.ofString "." ++ A).length : Int) - (l.length : Int) < 0 := of_decide_eq_true h1
      have f1 : decide (((tl wd).take g).length + 1 < (tl l).length) = true := decide_eq_true (by omega)
      unfold fitsB at q
      rw [f1, Bool.true_or, Bool.not_true, Bool.false_and] at q
      exact q
    have h1' : ¬ ((Str.ofString "." ++ A).length : Int) - (l.length : Int) < 0 := fun h => h1 (decide_eq_true h)
    have f1 : ¬ ((tl wd).take g).length + 1 < (tl l).length := by omega
    rw [fits_eq hL f1] at q
    have e3 : ((((Str.ofString "." ++ A).length : Nat) : Int) - (l.length : Int)) = ((((tl wd).take g).length + 1 - (tl l).length : Nat) : Int) := by rw [lb1, eA2, el]; omega
    refine ⟨.ref t, rfl, t, _, 0, .str l, rfl, rfl, SqT.of ht, atI_nat (j := 0) rfl, .str (Str.ofString "." ++ A), rfl, _, rfl, _, congrArg V.int e3, _, rfl, line _ (by omega), l, _, rfl, by omega, Nat.le_trans (cutS_length _ _ _) (by omega), ?_⟩
    rw [cut_from, tl_add, etd, eA]
    rw [show ([46] ++ (tl wd).take g) = 46 :: (tl wd).take g from rfl]
    refine ⟨_, rfl, ?_⟩
    cases es : lsays (tl l) ((46 :: (tl wd).take g).drop (((tl wd).take g).length + 1 - (tl l).length)) with
    | false =>
      rw [es, Bool.false_and] at q
      exact iteT q
    | true =>
      rw [es, Bool.true_and] at q
      refine iteF ⟨.ref t, rfl, t, _, 1, .str r, rfl, rfl, SqT.of ht, atI_nat (j := 1) rfl, .str (Bh ++ Str.ofString "."), rfl, .ref t, rfl, t, _, 1, .str r, rfl, rfl, SqT.of ht, atI_nat (j := 1) rfl, .str r, r.length, rfl, ⟨line _ (by omega), rfl⟩, _, rfl, _, rfl, line _ (by omega), r, _, rfl, by omega, Nat.le_trans (cutS_length _ _ _) (by omega), ?_⟩
      rw [cut_to, tl_add, etd, eB, ← er]
      exact q
end
end K29

set_option maxRecDepth 100000
set_option maxHeartbeats 4000000
namespace K29
open PySem PySem.Spec PyProof.Rows L2 RJ PySem.Calls
/-! ### text * int, with what stands in it -/
theorem rep_size (z : Array Nat) : ∀ (k : Nat) (acc : Array Nat), ((List.replicate k z).foldl (fun x1 x2 => x1 ++ x2) acc).size = acc.size + k * z.size
  | 0, acc => by simp
  | k + 1, acc => by
    rw [List.replicate_succ, List.foldl_cons, rep_size z k (acc ++ z), Array.size_append, Nat.succ_mul]; omega
theorem rep_tl (z : Array Nat) : ∀ (k : Nat) (acc : Array Nat), ((List.replicate k z).foldl (fun x1 x2 => x1 ++ x2) acc).toList = acc.toList ++ (List.replicate k z.toList).flatten
  | 0, acc => by simp
  | k + 1, acc => by
    rw [List.replicate_succ, List.foldl_cons, rep_tl z k (acc ++ z), Array.toList_append, List.replicate_succ, List.flatten_cons, List.append_assoc]
def rMulT : R2 := fun x y H Q => ∃ (z : Str) (n : Nat), x = .str z ∧ y = .int (n : Int) ∧ 2 ≤ n ∧ n ≤ 1000 ∧ 1 ≤ z.length ∧ z.length ≤ 1000 ∧ ∀ z' : Str, tl z' = (List.replicate n (tl z)).flatten → z'.length = n * z.length → Q (.str z') H
theorem op_mulT {X : Cx} : OpR X (binaryOp .Mult) rMulT := by
  intro pins s σ H x y v u Q I rx ry h
  obtain ⟨z, n, rfl, rfl, h2, h3, h4, h5, q⟩ := h
  obtain ⟨t, rfl⟩ := rx
  obtain ⟨t', rfl⟩ := ry
  have hm : z.length * n ≤ 1000 * 1000 := Nat.mul_le_mul h5 h3
  have hone : ((n : Int) == 1 || z.length == 0) = false := by
    rw [Bool.or_eq_false_iff]; exact ⟨beq_eq_false_iff_ne.mpr (by omega), beq_eq_false_iff_ne.mpr (by omega)⟩
  refine PySem.P.mul_str ?_ (fun _ _ => ?_) (fun _ _ => ?_) ?_
  · rw [Bool.or_eq_false_iff]; exact ⟨decide_eq_false (by omega), decide_eq_false (by omega)⟩
  · intro hgt
    have h7 : (2 ^ 63 - 1 : Int) / (n : Int) ≥ 1000 := (Int.le_ediv_iff_mul_le (by omega)).mpr (by omega)
    omega
  · show decide (z.length * (n : Int).toNat > sizeLine) = false
    refine decide_eq_false ?_
    rw [Int.toNat_natCast, sizeLine_eq]; omega
  · rw [if_neg (by omega), if_neg (by rw [hone]; exact Bool.false_ne_true), Int.toNat_natCast]
    have hs : (List.foldl (· ++ ·) #[] (List.replicate n z.cps)).size = n * z.length := by
      have e := rep_size z.cps n #[]
      rw [e]; simp [Str.length]
    have ht : (List.foldl (· ++ ·) #[] (List.replicate n z.cps)).toList = (List.replicate n (tl z)).flatten := by
      have e := rep_tl z.cps n #[]
      rw [e]; simp [tl]
    refine ⟨?_, ⟨.str _, H, I.tok _, ⟨_, rfl⟩, q _ ht hs⟩⟩
    rw [sizeLine_eq]
    show (List.foldl (· ++ ·) #[] (List.replicate n z.cps)).size ≤ _
    rw [hs, Nat.mul_comm]; omega
theorem all_rep {l : List Nat} {n : Nat} {p : Nat → Prop} (h : ∀ c ∈ l, p c) : ∀ c ∈ (List.replicate n l).flatten, p c := fun c hc => by
  obtain ⟨m, hm, hc⟩ := List.mem_flatten.mp hc
  rw [(List.mem_replicate.mp hm).2] at hc
  exact h c hc
structure Word (z : Str) : Prop where
  L : ∀ c ∈ tl z, isL c = true
  lo : 1 ≤ z.length
  hi : z.length ≤ 40
section
variable {P : Program} {w : World} {K : PySem.W.Frag} {mg : Str → Option Value} {base : Heap} {t1 t2 t3 t4 t5 : Tok}
/-! ### _law_word -/
def lsW (n : Nat) : List Int := [3, 8, 40, 6] ++ List.replicate 40 (n : Int)
def spWord : Sp := fun vs H Q _ => ∃ (c : Int) (z : Str), vs = [.int c, .str z] ∧ Alpha z ∧ ∀ H' y, Same H H' → Word y → Q (.str y) H'
abbrev nWo : List Str := ["_law_cell_here", "_law_letters_here", "_law_limits", "_law_k", "_law_row_here", "_law_size", "_law_drawn"]
theorem scWord : FnScope nWo ["_law_cell_here", "_law_letters_here"] (defScope sWord) := ⟨rfl, rfl, rfl, by decide +kernel, rfl, by decide +kernel, by decide +kernel⟩
theorem ok_word {f f_row : Addr} {fd fd_row : FuncData} (B : Blt mg) (F : Fun K "_law_word" "_law_word" sWord f fd)
    (F_row : Fun K "_law_row" "_law_row" sRow f_row fd_row) (b_row : Binds K fd_row ["_law_cell_here", "_law_limits"] []) (g_row : mg "_law_row" = some (.ref f_row)) :
    FnOk P w K mg base CX0 2 f fd ["_law_cell_here", "_law_letters_here"] spWord := by
  have G_row : FnOk P w K mg base CX0 1 f_row fd_row ["_law_cell_here", "_law_limits"] (spRow K) := ok_row B F_row
  refine F.ok scWord (fun vs H Q E h => ?_) (fun cdv A0 outer s H vs Q E hr h => ?_)
  · obtain ⟨c, z, rfl, _⟩ := h; rfl
  · obtain ⟨c, z, rfl, hz, q⟩ := h
    refine ⟨_, (pss_cons (ps_set (i := 2) scWord.nd rfl (.inl rfl) (pe_lst (pa_cons pe_int (pa_cons pe_int (pa_cons pe_int (pa_cons pe_int pa_nil))))))
      (pss_cons (ps_for (PassesOwn.never) rfl (pi_range1 (by rfl) B.range (pa_cons pe_int pa_nil)) (pg_name (i := 3) scWord.nd rfl (.inl rfl))
      (pss_one (ps_expr (pe_bm PySem.F.plainAttrs_list PySem.F.slot_list_append PySem.F.type_list_append mt_append (pv 2) (pa_cons (pe_callB call_len (by rfl) B.len PySem.boot_len (pa_cons (pv 1) pa_nil)) pa_nil)))))
      (pss_cons (ps_set (i := 4) scWord.nd rfl (.inr rfl) (pe_call G_row hr (by rfl) g_row F_row.kp b_row .nil pass0 (pa_cons (pv 0) (pa_cons (pv 2) pa_nil))))
      (pss_cons (ps_set (i := 5) scWord.nd rfl (.inl rfl) (pe_op op_add pe_int (pe_ix ix_list (pv 4) pe_int (fun _ _ => rfl))))
      (Evl.pss_cut (ps_if (pt_cmpR op_eq (pe_ix ix_list (pv 4) pe_int (fun _ _ => rfl)) pe_int (nomark _))
      (pss_one (ps_set (i := 5) scWord.nd rfl (.inl rfl) (pe_op op_add pe_int (pe_ix ix_list (pv 4) pe_int (fun _ _ => rfl)))))
      pss_nil)
      (pss_cons (ps_set (i := 6) scWord.nd rfl (.inl rfl) (pe_join pe_str (pe_lc (own := [("_law_k", 3)]) (g := gName 3) (tt := tYes) rfl scWord.nd (pi_range1 (by rfl) B.range (pa_cons pe_int pa_nil)) (blkOk_by (N := nWo) (sc := defScope sWord) (by decide +kernel)) (fun _ _ _ _ _ => (pg_name (i := 3) scWord.nd rfl (.inl rfl))) (fun _ _ _ _ _ => pts_nil) (fun _ _ _ _ _ => (pe_ix ix_str (pv 1) (pe_ix (show IxR _ (rIxL K) from ix_list) (pv 4) (pe_op op_add pe_int (pv 3)) (fun _ _ => rfl)) (fun _ _ => rfl))))))
      (Evl.pss_cut (ps_if (pt_cmpR op_eq (pe_ix ix_list (pv 4) pe_int (fun _ _ => rfl)) pe_int (nomark _))
      (pss_one (ps_set (i := 6) scWord.nd rfl (.inl rfl) (pe_op op_mulT (pe_slice sl_str (pv 6) po_none (po_some (pe_op op_add pe_int (pe_ix ix_list (pv 4) pe_int (fun _ _ => rfl))))) pe_int)))
      pss_nil)
      (pss_one (ps_ret (pe_slice sl_str (pv 6) po_none (po_some (pv 5)))))))))))), ?_⟩
    have z1 := hz.lo; have z3 := hz.hi
    have line : ∀ n : Nat, n ≤ 300 → n ≤ sizeLine := fun n h => Nat.le_trans h (by decide)
    refine ⟨(by show 4 ≤ sizeLine; decide), fun l nl => ?_⟩
    have s1 : Same H (upd H l (.lst [.int 3, .int 8, .int 40, .int 6])) := same_new nl
    have e1 : upd H l (.lst [.int 3, .int 8, .int 40, .int 6]) l = some (.lst (([3, 8, 40, 6] ++ List.replicate 0 (z.length : Int)).map V.int)) := upd_same
    generalize upd H l (.lst [.int 3, .int 8, .int 40, .int 6]) = H1 at s1 e1 ⊢
    refine ⟨40, rfl, by decide, by decide, ?_⟩
    refine for_range (lo := 0) (n := 40) (fun i σ H' => ∃ y3, σ = [some (.int c), some (.str z), some (.ref l), y3, none, none, none] ∧ Same H H' ∧ H' l = some (.lst (([3, 8, 40, 6] ++ List.replicate i (z.length : Int)).map V.int))) ⟨none, rfl, s1, e1⟩ ?_ ?_
    · rintro i σ H' hi ⟨y3, rfl, sm, hl⟩
      refine ⟨.ref l, rfl, .inl ⟨rfl, _, SqL.of hl⟩, .str z, rfl, .str z, z.length, rfl, ⟨line _ (by omega), rfl⟩, l, _, _, rfl, rfl, hl, small1000 (by simp; omega), ?_⟩
      refine ⟨_, rfl, same_at sm nl, ?_⟩
      rw [upd_same, map_snoc, List.append_assoc, ← List.replicate_succ']
    rintro σ H' ⟨y3, rfl, sm, hl⟩
    refine ⟨.int c, rfl, .ref l, rfl, c, l, lsW z.length, rfl, SqL.of hl, by simp [lsW], ?_, fun H2 R rs s2 nR eR hrow => ?_⟩
    · intro x hx
      simp only [lsW, List.mem_append, List.mem_cons, List.not_mem_nil, or_false, List.mem_replicate] at hx
      rcases hx with (rfl | rfl | rfl | rfl) | ⟨_, rfl⟩
      · decide
      · decide
      · decide
      · decide
      · omega
    have sA : Same H H2 := sm.trans s2
    obtain ⟨g0, a0, g00, g01⟩ := hrow.2 0 3 rfl
    obtain ⟨g1, a1, g10, g11⟩ := hrow.2 1 8 rfl
    obtain ⟨g2, a2, g20, g21⟩ := hrow.2 2 40 rfl
    obtain ⟨g3, a3, g30, g31⟩ := hrow.2 3 6 rfl
    have rowz : ∀ k : Nat, k < 40 → ∃ g, rs[4 + k]? = some g ∧ 0 ≤ g ∧ g < (z.length : Int) := fun k hk => hrow.2 (4 + k) (z.length : Int) (by
      unfold lsW
      rw [List.getElem?_append_right (by simp), show 4 + k - [3, 8, 40, (6 : Int)].length = k by simp, List.getElem?_replicate, if_pos hk])
    clear hl e1
    refine ⟨.ref R, rfl, R, _, 2, .int g2, rfl, rfl, SqL.of eR, atI_nat (j := 2) (at1 a2), 1, g2, rfl, rfl, ?_⟩
    refine ⟨fun σ H' => ∃ (y3 : Option V) (n : Nat), σ = [some (.int c), some (.str z), some (.ref l), y3, some (.ref R), some (.int (n : Int)), none] ∧ H2 = H' ∧ 1 ≤ n ∧ n ≤ 40, ?_, ?_⟩
    · have k1 : ∃ n : Nat, (1 + g2 : Int) = (n : Int) ∧ 1 ≤ n ∧ n ≤ 40 := ⟨(1 + g2).toNat, by omega, by omega, by omega⟩
      obtain ⟨n, en, n1, n40⟩ := k1
      have k2 : ∃ n : Nat, (1 + g1 : Int) = (n : Int) ∧ 1 ≤ n ∧ n ≤ 40 := ⟨(1 + g1).toNat, by omega, by omega, by omega⟩
      obtain ⟨m, em, m1, m40⟩ := k2
      dsimp only
      rw [en]
      refine ⟨.ref R, rfl, R, _, 0, .int g0, rfl, rfl, SqL.of eR, atI_nat (j := 0) (at1 a0), rfl, _, rfl, ite2 (fun _ => ?_) (fun _ => ⟨_, n, rfl, rfl, n1, n40⟩)⟩
      refine ⟨.ref R, rfl, R, _, 1, .int g1, rfl, rfl, SqL.of eR, atI_nat (j := 1) (at1 a1), 1, g1, rfl, rfl, y3, m, ?_, rfl, m1, m40⟩
      rw [← em]; rfl
    rintro σ _ ⟨y3', n, rfl, rfl, hn1, hn40⟩
    refine ⟨⟨_, rfl⟩, 40, rfl, by decide, by decide, fun D hD => ?_⟩
    refine lc_range (lo := 0) (n := 40) (fun i H' => ∃ cs : List Nat, H' D = some (.lst ((cs.map fun c => (⟨#[c]⟩ : Str)).map V.str)) ∧ cs.length = i ∧ (∀ c ∈ cs, isL c = true) ∧ Same H2 H')
      ⟨[], upd_same, rfl, fun c h => absurd h List.not_mem_nil, same_new hD⟩ ?_ ?_
    · rintro i H' hi ⟨cs, hD', hl, hL, sm⟩
      obtain ⟨g, ag, gg0, gg1⟩ := rowz i hi
      obtain ⟨cch, hc, hcm⟩ := pick (z := z) gg0 gg1
      have e0 : (4 : Int) + (0 + (i : Int)) = ((4 + i : Nat) : Int) := by omega
      refine ⟨rfl, .str z, rfl, .ref R, rfl, .int (0 + (i : Int)), rfl, 4, _, rfl, rfl, R, _, _, .int g, rfl, rfl, SqL.of (sm _ _ eR), by rw [e0]; exact atI_nat (at1 ag), z, g, cch, rfl, rfl, line _ (by omega), hc, _, hD', ?_, cs ++ [cch], ?_, ?_, ?_, same_at sm hD⟩
      · rw [List.length_map, List.length_map]; exact small1000 (by omega)
      · rw [upd_same, List.map_append, List.map_append]; rfl
      · rw [List.length_append, hl]; rfl
      · intro x hx
        rcases List.mem_append.mp hx with h | h
        · exact hL x h
        · rw [List.mem_singleton.mp h]; exact hz.L _ hcm
    rintro H3 ⟨cs, hD', hl, hL, sm3⟩
    refine ⟨_, D, _, rfl, rfl, .inl (SqL.of hD'), ?_, ?_⟩
    · rw [sum_ones, show (Str.ofString "").length = 0 by decide +kernel, Nat.mul_zero]; omega
    have eJ := join_ones cs
    generalize hJ : Txt.join (Str.ofString "") (cs.map fun c => (⟨#[c]⟩ : Str)) = J at eJ
    have lJ : J.length = 40 := by rw [← tl_len, eJ, hl]
    have eR3 := sm3 _ _ eR
    clear hD hD' hJ
    refine ⟨fun σ H' => ∃ (y3 : Option V) (y : Str), σ = [some (.int c), some (.str z), some (.ref l), y3, some (.ref R), some (.int (n : Int)), some (.str y)] ∧ H3 = H' ∧ (∀ c ∈ tl y, isL c = true) ∧ 40 ≤ y.length ∧ y.length ≤ 300, ?_, ?_⟩
    · have keep : (∀ c ∈ tl J, isL c = true) ∧ 40 ≤ J.length ∧ J.length ≤ 300 := ⟨by rw [eJ]; exact hL, by omega, by omega⟩
      refine ⟨.ref R, rfl, R, _, 0, .int g0, rfl, rfl, SqL.of eR3, atI_nat (j := 0) (at1 a0), rfl, _, rfl, ite2 (fun _ => ?_) (fun _ => ⟨_, J, rfl, rfl, keep⟩)⟩
      obtain ⟨m, em, m1, m6⟩ : ∃ m : Nat, (1 + g3 : Int) = (m : Int) ∧ 1 ≤ m ∧ m ≤ 6 := ⟨(1 + g3).toNat, by omega, by omega, by omega⟩
      refine ⟨.str J, rfl, .ref R, rfl, R, _, 3, .int g3, rfl, rfl, SqL.of eR3, atI_nat (j := 3) (at1 a3), 1, g3, rfl, rfl, _, congrArg V.int em, J, rfl, line _ (by omega), _, 40, rfl, rfl, by decide, by decide, ?_, ?_, fun y' hy hyl => ?_⟩
      · rw [← tl_len, cut_to, List.length_take, tl_len, lJ]; omega
      · exact Nat.le_trans (cutS_length _ _ _) (by omega)
      have hcl : (cutS J none (some (m : Int))).length = m := by rw [← tl_len, cut_to, List.length_take, tl_len, lJ]; omega
      refine ⟨_, y', rfl, rfl, ?_, by rw [hyl, hcl]; omega, by rw [hyl, hcl]; omega⟩
      rw [hy]
      exact all_rep fun c hc => by rw [cut_to] at hc; exact keep.1 c (List.mem_of_mem_take hc)
    rintro σ _ ⟨y3'', y, rfl, rfl, hyL, hy40, hy300⟩
    refine ⟨.str y, rfl, .int (n : Int), rfl, _, rfl, y, rfl, line _ hy300, q _ _ (sA.trans sm3) ⟨?_, ?_, ?_⟩⟩
    · intro c hc
      rw [cut_to] at hc
      exact hyL c (List.mem_of_mem_take hc)
    · rw [← tl_len, cut_to, List.length_take, tl_len]; omega
    · rw [← tl_len, cut_to, List.length_take]; omega
end
end K29

set_option maxRecDepth 100000
set_option maxHeartbeats 4000000
namespace K29
open PySem PySem.Spec PyProof.Rows L2 RJ
/-! ### what is told -/
def isW (l : List Nat) : Bool := !decide (l = []) && l.all isL
def isJ : List Rw → List Nat → Nat → Bool
  | [], _, _ => false
  | x :: xs, w, g => if fitsB (tl x.1) (tl x.2.1) w g = true then !x.2.2 else isJ xs w g
theorem isJ_none {w : List Nat} {g : Nat} : ∀ {xs : List Rw} {k : Nat}, first (fun x : Rw => fitsB (tl x.1) (tl x.2.1) w g) xs k = none → isJ xs w g = false
  | [], k, _ => rfl
  | x :: xs, k, h => by
    unfold first at h
    by_cases hf : fitsB (tl x.1) (tl x.2.1) w g = true
    · rw [if_pos hf] at h; cases h
    · rw [if_neg hf] at h
      unfold isJ
      rw [if_neg hf]
      exact isJ_none h
theorem isJ_some {w : List Nat} {g : Nat} : ∀ {xs : List Rw} {k n : Nat}, first (fun x : Rw => fitsB (tl x.1) (tl x.2.1) w g) xs k = some n → ∃ i x, n = k + i ∧ xs[i]? = some x ∧ isJ xs w g = !x.2.2
  | [], k, n, h => by cases h
  | x :: xs, k, n, h => by
    unfold first at h
    by_cases hf : fitsB (tl x.1) (tl x.2.1) w g = true
    · rw [if_pos hf] at h; cases h
      exact ⟨0, x, rfl, rfl, by unfold isJ; rw [if_pos hf]⟩
    · rw [if_neg hf] at h
      obtain ⟨i, y, e, hy, hj⟩ := isJ_some h
      exact ⟨i + 1, y, by omega, by simpa using hy, by unfold isJ; rw [if_neg hf]; exact hj⟩
def nV (g : Nat) : V := .int (g : Int)
/-- the first k gaps -/
def gapsTo (xs : List Rw) (w : List Nat) : Nat → List Nat
  | 0 => []
  | k + 1 => gapsTo xs w k ++ (if isJ xs w (1 + k) = true then [1 + k] else [])
def gapsOf (xs : List Rw) (w : List Nat) : List Nat := gapsTo xs w (w.length - 1)
theorem gapsTo_len (xs : List Rw) (w : List Nat) : ∀ k, (gapsTo xs w k).length ≤ k
  | 0 => Nat.le_refl _
  | k + 1 => by
    have := gapsTo_len xs w k
    unfold gapsTo
    rw [List.length_append]
    split <;> simp <;> omega
theorem gapsTo_le (xs : List Rw) (w : List Nat) : ∀ k, ∀ g ∈ gapsTo xs w k, g ≤ k
  | 0, g, h => by cases h
  | k + 1, g, h => by
    unfold gapsTo at h
    rcases List.mem_append.mp h with h | h
    · have := gapsTo_le xs w k g h; omega
    · split at h
      · rw [List.mem_singleton.mp h]; omega
      · cases h
/-- the pieces from s on -/
def pieces (wd : Str) : Nat → List Nat → List Str
  | s, [] => [cutS wd (some (s : Int)) none]
  | s, c :: cs => cutS wd (some (s : Int)) (some (c : Int)) :: pieces wd c cs
theorem pieces_len (wd : Str) : ∀ (s : Nat) (gs : List Nat), (pieces wd s gs).length = gs.length + 1
  | s, [] => rfl
  | s, c :: cs => by unfold pieces; rw [List.length_cons, pieces_len wd c cs, List.length_cons]
theorem cut_end (z : Str) (a : Nat) : cutS z (some (a : Int)) (some ((z.length : Nat) : Int)) = cutS z (some (a : Int)) none := by
  unfold cutS
  rw [HT.sIx_nat, HT.sIx_nat, HT.sIx_none, Nat.min_self]
theorem cutV_tail (xs : List V) (h : 1 ≤ xs.length) : cutV xs (some 1) none = xs.drop 1 := by
  unfold cutV
  rw [show (1 : Int) = ((1 : Nat) : Int) from rfl, HT.sIx_nat, HT.sIx_none, Nat.min_eq_left h, List.take_of_length_le (by rw [List.length_drop]; exact Nat.le_refl _)]
/-- the i-th piece lies between the i-th border and the next one -/
theorem piece_at (wd : Str) : ∀ (gs : List Nat) (s i : Nat), i < gs.length + 1 → ∃ a b, (s :: gs ++ [wd.length])[i]? = some a ∧ (gs ++ [wd.length])[i]? = some b ∧ (pieces wd s gs)[i]? = some (cutS wd (some (a : Int)) (some (b : Int)))
  | [], s, 0, _ => ⟨s, wd.length, rfl, rfl, by rw [cut_end]; rfl⟩
  | [], s, i + 1, h => absurd h (by simp)
  | c :: cs, s, 0, _ => ⟨s, c, rfl, rfl, rfl⟩
  | c :: cs, s, i + 1, h => by
    obtain ⟨a, b, h1, h2, h3⟩ := piece_at wd cs c i (by simpa using h)
    exact ⟨a, b, by simpa using h1, by simpa using h2, by unfold pieces; simpa using h3⟩
def cutsOf (xs : List Rw) (wd : Str) : List Nat := if isW (tl wd) = true then gapsOf xs (tl wd) else []
def sylOf (xs : List Rw) (wd : Str) : List Str := pieces wd 0 (cutsOf xs wd)
theorem eqE (z : Str) : decide (V.str z = V.str (Str.ofString "")) = decide (tl z = []) := by
  rw [eqT, show tl (Str.ofString "") = [] by decide +kernel]
theorem take_mapL (l : List Nat) {i c : Nat} (h : l[i]? = some c) : (l.take i).map isL ++ [isL c] = (l.take (i + 1)).map isL := by
  rw [List.take_add_one, h, List.map_append]; rfl
section
variable {P : Program} {w : World} {K : PySem.W.Frag} {mg : Str → Option Value} {base : Heap} {t1 t2 t3 t4 t5 : Tok}
/-! ### is_word -/
def spIsWord : Sp := fun vs H Q _ => ∃ (z : Str), vs = [.str z] ∧ z.length ≤ 1000 ∧ ∀ H', Same H H' → Q (.bl (isW (tl z))) H'
abbrev nIsW : List Str := ["text", "char"]
theorem scIsWord : FnScope nIsW ["text"] (defScope sIsWord) := ⟨rfl, rfl, rfl, by decide +kernel, rfl, by decide +kernel, by decide +kernel⟩
theorem ok_is_word {f f_is_letter : Addr} {fd fd_is_letter : FuncData} (B : Blt mg) (F : Fun K "is_word" "is_word" sIsWord f fd)
    (F_is_letter : Fun K "is_letter" "is_letter" sLetter f_is_letter fd_is_letter) (b_is_letter : Binds K fd_is_letter ["char"] []) (g_is_letter : mg "is_letter" = some (.ref f_is_letter)) :
    FnOk P w K mg base CX0 2 f fd ["text"] spIsWord := by
  have G_is_letter : FnOk P w K mg base CX0 1 f_is_letter fd_is_letter ["char"] spLet := ok_letter F_is_letter
  refine F.ok scIsWord (fun vs H Q E h => ?_) (fun cdv A0 outer s H vs Q E hr h => ?_)
  · obtain ⟨z, rfl, _⟩ := h; rfl
  · obtain ⟨z, rfl, hz, q⟩ := h
    refine ⟨_, (pss_one (ps_ret (pe_and (pe_cmpR op_ne (pv 0) pe_str (nomark _)) (pe_one (pe_callB (cr_all rfl) (by rfl) B.all (by decide +kernel) (pa_cons (pe_lc (own := [("char", 1)]) (g := gName 1) (tt := tYes) rfl scIsWord.nd (pi_str (pv 0)) (blkOk_by (N := nIsW) (sc := defScope sIsWord) (by decide +kernel)) (fun _ _ _ _ _ => (pg_name (i := 1) scIsWord.nd rfl (.inl rfl))) (fun _ _ _ _ _ => pts_nil) (fun _ _ _ _ _ => (pe_call G_is_letter hr (by rfl) g_is_letter F_is_letter.kp b_is_letter .nil pass0 (pa_cons (pv 1) pa_nil)))) pa_nil)))))), ?_⟩
    refine ⟨.str z, rfl, rfl, _, rfl, ?_⟩
    rw [eqE]
    refine ite2 (fun h => ?_) (fun h => ?_)
    · refine ⟨.str z, rfl, z, rfl, fun D hD => ?_⟩
      refine lc_it walk_str (fun i H' => H' D = some (.lst ((((tl z).take i).map isL).map V.bl)) ∧ Same H H') ⟨upd_same, same_new hD⟩ (fun _ _ _ _ => trivial) ?_ ?_
      · rintro i v H1 H2 hi ⟨hD', sm⟩ ⟨rfl, c, hc, rfl⟩
        have hc' : (tl z)[i]? = some c := by simpa [tl] using hc
        have hi2 : i < z.length := hi
        refine ⟨rfl, .str ⟨#[c]⟩, rfl, c, rfl, _, hD', ?_, ?_, same_at sm hD⟩
        · rw [List.length_map, List.length_map, List.length_take]; exact small1000 (by omega)
        · rw [upd_same, ← take_mapL _ hc', List.map_append]; rfl
      · rintro H' ⟨hD', sm⟩
        have e : (tl z).take z.cps.size = tl z := List.take_of_length_le (by rw [tl_len]; exact Nat.le_refl _)
        rw [e] at hD'
        refine ⟨D, _, rfl, SqL.of hD', ?_⟩
        have hq := q H' sm
        unfold isW at hq
        rw [h, Bool.true_and] at hq
        rw [List.all_map]; exact hq
    · have hq := q H (Same.refl _)
      have h' : (!decide (tl z = [])) = false := by simpa using h
      unfold isW at hq
      rw [h', Bool.false_and] at hq
      exact hq
/-! ### Joints.__len__, Joints.__iter__ -/
def spLen (C : Addr) : Sp := fun vs H Q _ => ∃ (p l1 l2 : Addr) (zs : List Str) (xs : List Rw), vs = [.ref p] ∧ JAt C H p l1 l2 zs xs ∧ zs.length ≤ 1000 ∧ Q (.int ((zs.length : Nat) : Int)) H
theorem scLen : FnScope ["self"] ["self"] (defScope sLen) := ⟨rfl, rfl, rfl, by decide +kernel, rfl, by decide +kernel, by decide +kernel⟩
theorem ok_len {C f : Addr} {fd : FuncData} (B : Blt mg) (T : Txt K mg C) (F : Fun K "__len__" "Joints.__len__" sLen f fd) : FnOk P w K mg base CX0 1 f fd ["self"] (spLen C) := by
  refine F.ok scLen (fun vs H Q E h => ?_) (fun cdv A0 outer s H vs Q E hr h => ?_)
  · obtain ⟨p, l1, l2, zs, xs, rfl, _⟩ := h; rfl
  · obtain ⟨p, l1, l2, zs, xs, rfl, ⟨dx, fs, us, hp, ff, hl1, hl2, hrow⟩, hz, q⟩ := h
    refine ⟨_, (pss_one (ps_ret (pe_callB call_len (by rfl) B.len PySem.boot_len (pa_cons (pe_fld (pv 0) rfl) pa_nil)))), ?_⟩
    refine ⟨.ref p, rfl, p, C, dx, fs, _, rfl, hp, T.cl, T.nL, ff.li, .ref l1, (zs.map V.str).length, rfl, .inl ⟨_, SqL.of hl1, rfl⟩, ?_⟩
    rw [List.length_map]; exact q
theorem scIter : FnScope ["self"] ["self"] (defScope sIter) := ⟨rfl, rfl, rfl, by decide +kernel, rfl, by decide +kernel, by decide +kernel⟩
theorem ok_iter {C f : Addr} {fd : FuncData} (B : Blt mg) (T : Txt K mg C) (F : Fun K "__iter__" "Joints.__iter__" sIter f fd) : RO.FnN P w K mg base CX0 1 f fd ["self"] (RO.spIt C "_lines") := by
  refine RO.fun_okN F scIter (fun n vs H Q E h => ?_) (fun cdv A0 outer s H vs Q E hr h => ?_)
  · obtain ⟨p, dx, l, fs, rfl, _⟩ := h; rfl
  · obtain ⟨p, dx, l, fs, rfl, hp, hf, ⟨zs, hl⟩, q⟩ := h
    refine ⟨_, (pss_one (ps_ret (pe_callB ItX.call_iterN (by rfl) B.iter (by decide +kernel) (pa_cons (pe_fld (pv 0) rfl) pa_nil)))), ?_⟩
    exact ⟨.ref p, rfl, p, C, dx, fs, _, rfl, hp, T.cl, T.nL, hf, l, zs, rfl, SqL.of hl, q⟩
/-! ### Joints.is_joint -/
def spIsJ (C : Addr) : Sp := fun vs H Q _ => ∃ (p l1 l2 : Addr) (wd : Str) (g : Nat) (zs : List Str) (xs : List Rw), vs = [.ref p, .str wd, .int (g : Int)] ∧ JAt C H p l1 l2 zs xs ∧ (∀ x ∈ xs, Good x) ∧ wd.length ≤ 100 ∧ g ≤ wd.length ∧ ∀ H', Same H H' → Q (.bl (isJ xs (tl wd) g)) H'
theorem scIsJ : FnScope ["self", "word", "gap", "index"] ["self", "word", "gap"] (defScope sIsJ) := ⟨rfl, rfl, rfl, by decide +kernel, rfl, by decide +kernel, by decide +kernel⟩
theorem ok_isj {C f f_decider f_is_letter f_says f_fits : Addr} {fd fd_decider fd_is_letter fd_says fd_fits : FuncData} (B : Blt mg) (Z : Cst mg t1 t2 t3 t4 t5) (T : Txt K mg C) (F : Fun K "is_joint" "Joints.is_joint" sIsJ f fd)
    (F_decider : Fun K "decider" "Joints.decider" sDec f_decider fd_decider) (b_decider : Binds K fd_decider ["self", "word", "gap"] []) (m_decider : Meth K C "decider" f_decider)
    (F_is_letter : Fun K "is_letter" "is_letter" sLetter f_is_letter fd_is_letter) (b_is_letter : Binds K fd_is_letter ["char"] []) (g_is_letter : mg "is_letter" = some (.ref f_is_letter))
    (F_says : Fun K "_says" "_says" sSays f_says fd_says) (b_says : Binds K fd_says ["part", "text"] []) (g_says : mg "_says" = some (.ref f_says))
    (F_fits : Fun K "_fits" "_fits" sFits f_fits fd_fits) (b_fits : Binds K fd_fits ["row", "word", "gap"] []) (g_fits : mg "_fits" = some (.ref f_fits)) :
    FnOk P w K mg base CX0 5 f fd ["self", "word", "gap"] (spIsJ C) := by
  have G_decider : FnOk P w K mg base CX0 4 f_decider fd_decider ["self", "word", "gap"] (spDec C) := ok_dec B Z T F_decider F_is_letter b_is_letter g_is_letter F_says b_says g_says F_fits b_fits g_fits
  refine F.ok scIsJ (fun vs H Q E h => ?_) (fun cdv A0 outer s H vs Q E hr h => ?_)
  · obtain ⟨p, l1, l2, wd, g, zs, xs, rfl, _⟩ := h; rfl
  · obtain ⟨p, l1, l2, wd, g, zs, xs, rfl, hJ, hgd, hw, hg, q⟩ := h
    obtain ⟨dx, fs, us, hp, ff, hl1, hl2, hrow⟩ := id hJ
    refine ⟨_, (pss_cons (ps_set (i := 3) scIsJ.nd rfl (.inl rfl) (pe_meth (pv 0) T.cl m_decider G_decider hr b_decider .nil pass0 (pa_cons (pv 1) (pa_cons (pv 2) pa_nil))))
      (pss_one (ps_ret (pe_and (pe_cmpR op_notN (pv 3) pe_non (nomark _)) (pe_one (pe_not (pe_ix ix_tup (pe_ix ix_list (pe_fld (pv 0) rfl) (pv 3) (fun _ _ => rfl)) pe_int (fun _ _ => rfl)))))))), ?_⟩
    refine ⟨.ref p, rfl, p, dx, fs, rfl, hp, ff.de, .str wd, rfl, .int (g : Int), rfl, p, l1, l2, wd, g, zs, xs, rfl, hJ, hgd, hw, hg, fun H1 s1 => ?_⟩
    have hq := q H1 s1
    cases hd : dec xs (tl wd) g with
    | none =>
      rw [isJ_none hd] at hq
      exact ⟨.non, rfl, rfl, _, rfl, iteF hq⟩
    | some n =>
      obtain ⟨i, x, e, hx, hj⟩ := isJ_some hd
      obtain rfl : n = i := by omega
      rw [hj] at hq
      have hun : n < us.length := by rw [hrow.1]; exact (List.getElem?_eq_some_iff.mp hx).1
      have hv : us[n]? = some (us[n]'hun) := List.getElem?_eq_getElem hun
      obtain ⟨x', hx', t, ev, ht⟩ := hrow.get hv
      rw [hx] at hx'; cases hx'
      rw [ev] at hv
      refine ⟨.int (n : Int), rfl, rfl, _, rfl, iteT ?_⟩
      refine ⟨.ref p, rfl, p, C, dx, fs, _, rfl, s1 _ _ hp, T.cl, T.nR, ff.ro, .int (n : Int), rfl, l2, us, (n : Int), .ref t, rfl, rfl, SqL.of (s1 _ _ hl2), atI_nat hv, t, _, 2, .bl x.2.2, rfl, rfl, SqT.of (s1 _ _ ht), atI_nat (j := 2) rfl, _, rfl, hq⟩
end
end K29

set_option maxRecDepth 100000
set_option maxHeartbeats 4000000
namespace K29
open PySem PySem.Spec PyProof.Rows L2 RJ
section
variable {P : Program} {w : World} {K : PySem.W.Frag} {mg : Str → Option Value} {base : Heap} {t1 t2 t3 t4 t5 : Tok}
/-! ### Joints.gaps -/
def spGaps (C : Addr) : Sp := fun vs H Q _ => ∃ (p l1 l2 : Addr) (wd : Str) (zs : List Str) (xs : List Rw), vs = [.ref p, .str wd] ∧ JAt C H p l1 l2 zs xs ∧ (∀ x ∈ xs, Good x) ∧ 1 ≤ wd.length ∧ wd.length ≤ 100 ∧
  ∀ H' o, Same H H' → H o = none → H' o = some (.lst ((gapsOf xs (tl wd)).map nV)) → Q (.ref o) H'
abbrev nGa : List Str := ["self", "word", "gap"]
theorem scGaps : FnScope nGa ["self", "word"] (defScope sGaps) := ⟨rfl, rfl, rfl, by decide +kernel, rfl, by decide +kernel, by decide +kernel⟩
theorem ok_gaps {C f f_isj f_decider f_is_letter f_says f_fits : Addr} {fd fd_isj fd_decider fd_is_letter fd_says fd_fits : FuncData} (B : Blt mg) (Z : Cst mg t1 t2 t3 t4 t5) (T : Txt K mg C) (F : Fun K "gaps" "Joints.gaps" sGaps f fd)
    (F_is_joint : Fun K "is_joint" "Joints.is_joint" sIsJ f_isj fd_isj) (b_is_joint : Binds K fd_isj ["self", "word", "gap"] []) (m_is_joint : Meth K C "is_joint" f_isj)
    (F_decider : Fun K "decider" "Joints.decider" sDec f_decider fd_decider) (b_decider : Binds K fd_decider ["self", "word", "gap"] []) (m_decider : Meth K C "decider" f_decider)
    (F_is_letter : Fun K "is_letter" "is_letter" sLetter f_is_letter fd_is_letter) (b_is_letter : Binds K fd_is_letter ["char"] []) (g_is_letter : mg "is_letter" = some (.ref f_is_letter))
    (F_says : Fun K "_says" "_says" sSays f_says fd_says) (b_says : Binds K fd_says ["part", "text"] []) (g_says : mg "_says" = some (.ref f_says))
    (F_fits : Fun K "_fits" "_fits" sFits f_fits fd_fits) (b_fits : Binds K fd_fits ["row", "word", "gap"] []) (g_fits : mg "_fits" = some (.ref f_fits)) :
    FnOk P w K mg base CX0 6 f fd ["self", "word"] (spGaps C) := by
  have G_is_joint : FnOk P w K mg base CX0 5 f_isj fd_isj ["self", "word", "gap"] (spIsJ C) := ok_isj B Z T F_is_joint F_decider b_decider m_decider F_is_letter b_is_letter g_is_letter F_says b_says g_says F_fits b_fits g_fits
  refine F.ok scGaps (fun vs H Q E h => ?_) (fun cdv A0 outer s H vs Q E hr h => ?_)
  · obtain ⟨p, l1, l2, wd, zs, xs, rfl, _⟩ := h; rfl
  · obtain ⟨p, l1, l2, wd, zs, xs, rfl, hJ, hgd, hw1, hw, q⟩ := h
    refine ⟨_, (pss_one (ps_ret (pe_lc (own := [("gap", 2)]) (g := gName 2) rfl scGaps.nd (pi_range2 (by rfl) B.range (pa_cons pe_int (pa_cons (pe_callB call_len (by rfl) B.len PySem.boot_len (pa_cons (pv 1) pa_nil)) pa_nil))) (blkOk_by (N := nGa) (sc := defScope sGaps) (by decide +kernel)) (fun _ _ _ _ _ => (pg_name (i := 2) scGaps.nd rfl (.inl rfl))) (fun _ _ _ _ _ => pts_one (pt_val (pe_meth (pv 0) T.cl m_is_joint G_is_joint hr b_is_joint .nil pass0 (pa_cons (pv 1) (pa_cons (pv 2) pa_nil))))) (fun _ _ _ _ _ => (pv 2))))), ?_⟩
    refine ⟨.str wd, rfl, .str wd, wd.length, rfl, ⟨Nat.le_trans hw (by decide), rfl⟩, 1, (wd.length : Int), rfl, ⟨by decide, by decide, by omega, by omega⟩, fun D hD => ?_⟩
    have en : ((wd.length : Int) - 1).toNat = wd.length - 1 := by omega
    rw [en]
    refine lc_range (lo := 1) (n := wd.length - 1) (fun i H' => H' D = some (.lst ((gapsTo xs (tl wd) i).map nV)) ∧ Same H H') ⟨upd_same, same_new hD⟩ ?_ ?_
    · rintro i H' hi ⟨hD', sm⟩
      have eg : (1 : Int) + (i : Int) = ((1 + i : Nat) : Int) := by omega
      rw [eg]
      obtain ⟨dx, fs, us, hp, ff, hl1, hl2, hrow⟩ := hJ.same sm
      refine ⟨rfl, .ref p, rfl, p, dx, fs, rfl, hp, ff.ij, .str wd, rfl, .int ((1 + i : Nat) : Int), rfl, p, l1, l2, wd, 1 + i, zs, xs, rfl, hJ.same sm, hgd, hw, by omega, fun H2 s2 => ⟨_, rfl, ?_⟩⟩
      refine ite2 (fun h => ?_) (fun h => ?_)
      · refine ⟨_, rfl, _, s2 _ _ hD', ?_, ?_, same_at (sm.trans s2) hD⟩
        · have := gapsTo_len xs (tl wd) i
          rw [List.length_map]; exact small1000 (by omega)
        · rw [upd_same]
          show _ = some (HO.lst ((gapsTo xs (tl wd) i ++ (if isJ xs (tl wd) (1 + i) = true then [1 + i] else [])).map nV))
          rw [if_pos h, List.map_append]; rfl
      · refine ⟨?_, sm.trans s2⟩
        show _ = some (HO.lst ((gapsTo xs (tl wd) i ++ (if isJ xs (tl wd) (1 + i) = true then [1 + i] else [])).map nV))
        rw [if_neg (by simpa using h), List.append_nil]; exact s2 _ _ hD'
    · rintro H' ⟨hD', sm⟩
      refine q H' D sm hD ?_
      unfold gapsOf
      rw [tl_len]; exact hD'
/-! ### Joints.__call__ -/
def spCallJ (C : Addr) : Sp := fun vs H Q _ => ∃ (p l1 l2 : Addr) (wd : Str) (zs : List Str) (xs : List Rw), vs = [.ref p, .str wd] ∧ JAt C H p l1 l2 zs xs ∧ (∀ x ∈ xs, Good x) ∧ 1 ≤ wd.length ∧ wd.length ≤ 100 ∧
  ∀ H' o, Same H H' → H o = none → H' o = some (.lst ((sylOf xs wd).map V.str)) → Q (.ref o) H'
abbrev nCa : List Str := ["self", "token", "borders", "start", "end"]
theorem scCall : FnScope nCa ["self", "token"] (defScope sCall) := ⟨rfl, rfl, rfl, by decide +kernel, rfl, by decide +kernel, by decide +kernel⟩
theorem ok_callj {C f f_is_word f_gaps f_isj f_decider f_is_letter f_says f_fits : Addr} {fd fd_is_word fd_gaps fd_isj fd_decider fd_is_letter fd_says fd_fits : FuncData} (B : Blt mg) (Z : Cst mg t1 t2 t3 t4 t5) (T : Txt K mg C) (F : Fun K "__call__" "Joints.__call__" sCall f fd)
    (F_is_word : Fun K "is_word" "is_word" sIsWord f_is_word fd_is_word) (b_is_word : Binds K fd_is_word ["text"] []) (g_is_word : mg "is_word" = some (.ref f_is_word))
    (F_gaps : Fun K "gaps" "Joints.gaps" sGaps f_gaps fd_gaps) (b_gaps : Binds K fd_gaps ["self", "word"] []) (m_gaps : Meth K C "gaps" f_gaps)
    (F_is_joint : Fun K "is_joint" "Joints.is_joint" sIsJ f_isj fd_isj) (b_is_joint : Binds K fd_isj ["self", "word", "gap"] []) (m_is_joint : Meth K C "is_joint" f_isj)
    (F_decider : Fun K "decider" "Joints.decider" sDec f_decider fd_decider) (b_decider : Binds K fd_decider ["self", "word", "gap"] []) (m_decider : Meth K C "decider" f_decider)
    (F_is_letter : Fun K "is_letter" "is_letter" sLetter f_is_letter fd_is_letter) (b_is_letter : Binds K fd_is_letter ["char"] []) (g_is_letter : mg "is_letter" = some (.ref f_is_letter))
    (F_says : Fun K "_says" "_says" sSays f_says fd_says) (b_says : Binds K fd_says ["part", "text"] []) (g_says : mg "_says" = some (.ref f_says))
    (F_fits : Fun K "_fits" "_fits" sFits f_fits fd_fits) (b_fits : Binds K fd_fits ["row", "word", "gap"] []) (g_fits : mg "_fits" = some (.ref f_fits)) :
    FnOk P w K mg base CX0 7 f fd ["self", "token"] (spCallJ C) := by
  have G_gaps : FnOk P w K mg base CX0 6 f_gaps fd_gaps ["self", "word"] (spGaps C) := ok_gaps B Z T F_gaps F_is_joint b_is_joint m_is_joint F_decider b_decider m_decider F_is_letter b_is_letter g_is_letter F_says b_says g_says F_fits b_fits g_fits
  have G_is_word : FnOk P w K mg base CX0 2 f_is_word fd_is_word ["text"] spIsWord := ok_is_word B F_is_word F_is_letter b_is_letter g_is_letter
  refine F.ok scCall (fun vs H Q E h => ?_) (fun cdv A0 outer s H vs Q E hr h => ?_)
  · obtain ⟨p, l1, l2, wd, zs, xs, rfl, _⟩ := h; rfl
  · obtain ⟨p, l1, l2, wd, zs, xs, rfl, hJ, hgd, hw1, hw, q⟩ := h
    have hr2 : Room 2 _ := hr.mono (by decide)
    refine ⟨_, (pss_cons (ps_if (pt_not (pt_val (pe_call G_is_word hr2 (by rfl) g_is_word F_is_word.kp b_is_word .nil pass0 (pa_cons (pv 1) pa_nil))))
      (pss_one (ps_ret (pe_lst (pa_cons (pv 1) pa_nil))))
      pss_nil)
      (pss_cons (ps_set (i := 2) scCall.nd rfl (.inl rfl) (pe_op op_cat (pe_op op_cat (pe_lst (pa_cons pe_int pa_nil)) (pe_meth (pv 0) T.cl m_gaps G_gaps hr b_gaps .nil pass0 (pa_cons (pv 1) pa_nil))) (pe_lst (pa_cons (pe_callB call_len (by rfl) B.len PySem.boot_len (pa_cons (pv 1) pa_nil)) pa_nil))))
      (pss_one (ps_ret (pe_lc (own := [("start", 3), ("end", 4)]) (g := gTup K 2 (gCons (gName 3) (gCons (gName 4) gNil))) (tt := tYes) rfl scCall.nd (RZ.pi_zipA (by rfl) B.zip (pa_cons (pv 2) (pa_cons (pe_slice sl_list (pv 2) (po_some pe_int) po_none) pa_nil))) (blkOk_by (N := nCa) (sc := defScope sCall) (by decide +kernel)) (fun _ _ _ _ _ => (pg_tup rfl (pgs_cons (pg_name (i := 3) scCall.nd rfl (.inl rfl)) (pgs_cons (pg_name (i := 4) scCall.nd rfl (.inl rfl)) pgs_nil)))) (fun _ _ _ _ _ => pts_nil) (fun _ _ _ _ _ => (pe_slice sl_str (pv 1) (po_some (pv 3)) (po_some (pv 4))))))))), ?_⟩
    refine ⟨.str wd, rfl, wd, rfl, by omega, fun H1 s1 => ⟨_, rfl, ?_⟩⟩
    refine ite2 (fun h => ?_) (fun h => ?_)
    · have h' : isW (tl wd) = false := by simpa using h
      refine ⟨.str wd, rfl, (by show 1 ≤ sizeLine; decide), fun o no => ?_⟩
      refine q _ o (s1.trans (same_new no)) (s1.free no) ?_
      rw [upd_same]
      unfold sylOf cutsOf
      rw [if_neg (by rw [h']; exact Bool.false_ne_true)]
      have e : cutS wd (some ((0 : Nat) : Int)) none = wd := str_eq (by rw [cut_from]; rfl)
      show _ = some (HO.lst ([cutS wd (some ((0 : Nat) : Int)) none].map V.str))
      rw [e]; rfl
    · have h' : isW (tl wd) = true := by simpa using h
      have ec : cutsOf xs wd = gapsOf xs (tl wd) := by unfold cutsOf; rw [if_pos h']
      have hgl : (gapsOf xs (tl wd)).length ≤ 100 := by
        have := gapsTo_len xs (tl wd) ((tl wd).length - 1)
        unfold gapsOf; rw [tl_len] at this ⊢; omega
      generalize hgs : gapsOf xs (tl wd) = gs at hgl ec
      refine ⟨(by show 1 ≤ sizeLine; decide), fun a na => ?_⟩
      have sa : Same H (upd H1 a (.lst [.int 0])) := s1.trans (same_new na)
      have ea : upd H1 a (.lst [.int 0]) a = some (.lst [.int 0]) := upd_same
      have nfa : H a = none := s1.free na
      generalize upd H1 a (.lst [.int 0]) = H2 at sa ea ⊢
      obtain ⟨dx, fs, us, hp, ff, hl1, hl2, hrow⟩ := hJ.same sa
      refine ⟨.ref p, rfl, p, dx, fs, rfl, hp, ff.ga, .str wd, rfl, p, l1, l2, wd, zs, xs, rfl, hJ.same sa, hgd, hw1, hw, fun H3 b s3 nb eb => ?_⟩
      rw [hgs] at eb
      refine ⟨a, b, _, _, rfl, rfl, s3 _ _ ea, eb, Nat.le_trans (by rw [List.length_map]; show 1 + gs.length ≤ 1000; omega) (show 1000 ≤ sizeLine by decide), fun c nc => ?_⟩
      have sc : Same H (upd H3 c (.lst ([.int 0] ++ gs.map nV))) := sa.trans (s3.trans (same_new nc))
      have e4 : upd H3 c (.lst ([.int 0] ++ gs.map nV)) c = some (.lst ([.int 0] ++ gs.map nV)) := upd_same
      generalize upd H3 c (.lst ([.int 0] ++ gs.map nV)) = H4 at sc e4 ⊢
      refine ⟨.str wd, rfl, .str wd, wd.length, rfl, ⟨Nat.le_trans hw (by decide), rfl⟩, (by show 1 ≤ sizeLine; decide), fun d nd => ?_⟩
      have sd : Same H (upd H4 d (.lst [.int (wd.length : Int)])) := sc.trans (same_new nd)
      have e5 : upd H4 d (.lst [.int (wd.length : Int)]) d = some (.lst [.int (wd.length : Int)]) := upd_same
      have e45 := (same_new (o := .lst [.int (wd.length : Int)]) nd) _ _ e4
      generalize upd H4 d (.lst [.int (wd.length : Int)]) = H5 at sd e5 e45 ⊢
      refine ⟨c, d, _, _, rfl, rfl, e45, e5, Nat.le_trans (by rw [List.length_append, List.length_map]; show 1 + gs.length + 1 ≤ 1000; omega) (show 1000 ≤ sizeLine by decide), fun bo nbo => ?_⟩
      have eB : ([.int 0] ++ gs.map nV ++ [.int (wd.length : Int)] : List V) = ((0 : Nat) :: gs ++ [wd.length]).map nV := by simp [nV]
      rw [eB]
      have se : Same H (upd H5 bo (.lst (((0 : Nat) :: gs ++ [wd.length]).map nV))) := sd.trans (same_new nbo)
      have e6 : upd H5 bo (.lst (((0 : Nat) :: gs ++ [wd.length]).map nV)) bo = some (.lst (((0 : Nat) :: gs ++ [wd.length]).map nV)) := upd_same
      generalize upd H5 bo (.lst (((0 : Nat) :: gs ++ [wd.length]).map nV)) = H6 at se e6 ⊢
      refine ⟨.ref bo, rfl, .ref bo, rfl, _, rfl, bo, _, rfl, SqL.of e6, fun bt nbt => ?_⟩
      have eT : cutV (((0 : Nat) :: gs ++ [wd.length]).map nV) (some 1) none = (gs ++ [wd.length]).map nV := by
        rw [cutV_tail _ (by simp)]; rfl
      rw [eT]
      have sf : Same H (upd H6 bt (.lst ((gs ++ [wd.length]).map nV))) := se.trans (same_new nbt)
      have e7 : upd H6 bt (.lst ((gs ++ [wd.length]).map nV)) bt = some (.lst ((gs ++ [wd.length]).map nV)) := upd_same
      have e67 := (same_new (o := .lst ((gs ++ [wd.length]).map nV)) nbt) _ _ e6
      generalize upd H6 bt (.lst ((gs ++ [wd.length]).map nV)) = H7 at sf e7 e67 ⊢
      refine ⟨bo, bt, _, _, rfl, .inl ⟨SqL.of e67, SqL.of e7, fun D hD => ?_⟩⟩
      refine lc_it (walk_zip (n := gs.length + 1) (by simp)) (fun i H' => H' D = some (.lst (((pieces wd 0 gs).take i).map V.str)) ∧ Same H7 H') ⟨upd_same, same_new hD⟩ (fun i H' _ ⟨_, s⟩ => ⟨SqL.of (s _ _ e67), SqL.of (s _ _ e7)⟩) ?_ ?_
      · rintro i v H' H'' hi ⟨hD', sm⟩ ⟨t, x, y, rfl, nt, rfl, hx, hy⟩
        obtain ⟨m, n, h1, h2, h3⟩ := piece_at wd gs 0 i hi
        dsimp only at hx hy
        rw [List.getElem?_map, h1] at hx
        rw [List.getElem?_map, h2] at hy
        cases hx; cases hy
        refine ⟨t, _, rfl, SqT.of upd_same, rfl, nV m, _, rfl, nV n, _, rfl, rfl, rfl, ?_⟩
        refine ⟨.str wd, rfl, .int (m : Int), rfl, _, rfl, .int (n : Int), rfl, _, rfl, wd, rfl, Nat.le_trans hw (by decide), _, (same_new nt) _ _ hD', ?_, ?_, same_at (sm.trans (same_new nt)) hD⟩
        · rw [List.length_map, List.length_take]; exact small1000 (by omega)
        · rw [upd_same, List.take_add_one, h3, List.map_append]; rfl
      · rintro H' ⟨hD', sm⟩
        refine q H' D (sf.trans sm) (sf.free hD) ?_
        rw [List.take_of_length_le (by rw [pieces_len]; exact Nat.le_refl _)] at hD'
        unfold sylOf
        rw [ec]; exact hD'
end
end K29

set_option maxRecDepth 100000
set_option maxHeartbeats 4000000
namespace K29
open PySem PySem.Spec PyProof.Rows L2 RJ
theorem letters_all : ∀ k : Nat, k < 26 → 97 + k ∈ tl letters := by decide +kernel
theorem in_letters (c : Nat) : decide (c ∈ letters.cps.toList) = isL c := by
  cases h : isL c with
  | true =>
    refine decide_eq_true ?_
    unfold isL at h
    rw [Bool.and_eq_true, decide_eq_true_iff, decide_eq_true_iff] at h
    have := letters_all (c - 97) (by omega)
    rw [show 97 + (c - 97) = c by omega] at this
    exact this
  | false =>
    refine decide_eq_false fun hm => ?_
    have := letters_L c hm
    rw [h] at this; cases this
theorem nin_letters (c : Nat) : (!decide (c ∈ letters.cps.toList)) = !isL c := by rw [in_letters]
section
variable {P : Program} {w : World} {K : PySem.W.Frag} {mg : Str → Option Value} {base : Heap} {t1 t2 t3 t4 t5 : Tok}
/-! ### _law_is_joint -/
def spLIsJ : Sp := fun vs H Q _ => ∃ (a : Addr) (us : List V) (wd : Str) (g : Nat) (xs : List Rw), vs = [.ref a, .str wd, .int (g : Int)] ∧ H a = some (.lst us) ∧ RowsL H us xs ∧ (∀ x ∈ xs, Good x) ∧ wd.length ≤ 100 ∧ (∀ c ∈ tl wd, isL c = true) ∧ Q (.bl (isJ xs (tl wd) g)) H
theorem isJ_skip {w : List Nat} {g : Nat} : ∀ {xs : List Rw} {i : Nat}, (∀ (j : Nat) x, j < i → xs[j]? = some x → fitsB (tl x.1) (tl x.2.1) w g = false) → isJ xs w g = isJ (xs.drop i) w g
  | xs, 0, _ => rfl
  | [], i + 1, _ => rfl
  | x :: xs, i + 1, h => by
    rw [List.drop_succ_cons, ← isJ_skip (xs := xs) (i := i) fun j y hj hy => h (j + 1) y (by omega) (by simpa using hy)]
    have := h 0 x (by omega) rfl
    show (if fitsB (tl x.1) (tl x.2.1) w g = true then !x.2.2 else isJ xs w g) = _
    rw [if_neg (by rw [this]; exact Bool.false_ne_true)]
theorem scLIsJ : FnScope ["_law_rows", "_law_word_here", "_law_gap", "_law_row_here"] ["_law_rows", "_law_word_here", "_law_gap"] (defScope sLIsJ) := ⟨rfl, rfl, rfl, by decide +kernel, rfl, by decide +kernel, by decide +kernel⟩
theorem ok_lisj {f f_says f_fits : Addr} {fd fd_says fd_fits : FuncData} (B : Blt mg) (F : Fun K "_law_is_joint" "_law_is_joint" sLIsJ f fd)
    (F_says : Fun K "_law_says" "_law_says" sLSays f_says fd_says) (b_says : Binds K fd_says ["_law_part", "_law_text"] []) (g_says : mg "_law_says" = some (.ref f_says))
    (F_fits : Fun K "_law_fits" "_law_fits" sLFits f_fits fd_fits) (b_fits : Binds K fd_fits ["_law_row_here", "_law_word_here", "_law_gap"] []) (g_fits : mg "_law_fits" = some (.ref f_fits)) :
    FnOk P w K mg base CX0 3 f fd ["_law_rows", "_law_word_here", "_law_gap"] spLIsJ := by
  have G_fits : FnOk P w K mg base CX0 2 f_fits fd_fits ["_law_row_here", "_law_word_here", "_law_gap"] spLFits := ok_lfits B F_fits F_says b_says g_says
  refine F.ok scLIsJ (fun vs H Q E h => ?_) (fun cdv A0 outer s H vs Q E hr h => ?_)
  · obtain ⟨a, us, wd, g, xs, rfl, _⟩ := h; rfl
  · obtain ⟨a, us, wd, g, xs, rfl, ha, hrow, hgd, hw, hL, q⟩ := h
    refine ⟨_, (pss_cons (ps_for (PassesOwn.never) rfl (pi_list (pv 0)) (pg_name (i := 3) scLIsJ.nd rfl (.inl rfl))
      (pss_one (ps_if (pt_val (pe_call G_fits hr (by rfl) g_fits F_fits.kp b_fits .nil pass0 (pa_cons (pv 3) (pa_cons (pv 1) (pa_cons (pv 2) pa_nil)))))
       (pss_one (ps_ret (pe_not (pe_ix ix_tup (pv 3) pe_int (fun _ _ => rfl)))))
       pss_nil)))
      (pss_one (ps_ret pe_bl))), ?_⟩
    refine ⟨.ref a, rfl, a, rfl, ⟨_, SqL.of ha⟩, for_list (K := K) (a := a) (xs := us) (fun i σ H' => ∃ y3, σ = [some (.ref a), some (.str wd), some (.int (g : Int)), y3] ∧ H' = H ∧ ∀ (j : Nat) x, j < i → xs[j]? = some x → fitsB (tl x.1) (tl x.2.1) (tl wd) g = false) ⟨none, rfl, rfl, fun j x h => absurd h (Nat.not_lt_zero j)⟩ (fun i σ H' _ ⟨_, _, e, _⟩ => by rw [e]; exact SqL.of ha) ?_ ?_⟩
    · rintro i v σ H' hv ⟨y3, rfl, rfl, hno⟩
      obtain ⟨x, hx, t, rfl, ht⟩ := hrow.get hv
      have gx := hgd x (List.mem_of_getElem? hx)
      refine ⟨.ref t, rfl, .str wd, rfl, .int (g : Int), rfl, t, x.1, x.2.1, wd, x.2.2, g, rfl, ht, gx.l, gx.r, hw, hL, _, rfl, ite2 (fun h => ?_) (fun h => ?_)⟩
      · have e : isJ xs (tl wd) g = !x.2.2 := by
          rw [isJ_skip (i := i) hno]
          obtain ⟨hl, e2⟩ := List.getElem?_eq_some_iff.mp hx
          rw [List.drop_eq_getElem_cons hl, e2]
          show (if fitsB (tl x.1) (tl x.2.1) (tl wd) g = true then !x.2.2 else isJ (xs.drop (i + 1)) (tl wd) g) = _
          rw [if_pos h]
        rw [e] at q
        exact ⟨.ref t, rfl, t, _, 2, .bl x.2.2, rfl, rfl, SqT.of ht, atI_nat (j := 2) rfl, _, rfl, q⟩
      · refine ⟨_, rfl, rfl, fun j y hj hy => ?_⟩
        by_cases hji : j < i
        · exact hno j y hji hy
        · obtain rfl : j = i := by omega
          rw [hx] at hy; cases hy
          simpa using h
    · rintro σ H' ⟨y3, rfl, rfl, hno⟩
      have e : isJ xs (tl wd) g = false := by
        rw [isJ_skip (i := us.length) hno, hrow.1, List.drop_length]; rfl
      rw [e] at q
      exact q
/-! ### _law_is_word -/
def spLIsW : Sp := fun vs H Q _ => ∃ (z : Str), vs = [.str z] ∧ 1 ≤ z.length ∧ Q (.bl (isW (tl z))) H
theorem scLIsW : FnScope ["_law_token_here", "_law_sign"] ["_law_token_here"] (defScope sLIsWord) := ⟨rfl, rfl, rfl, by decide +kernel, rfl, by decide +kernel, by decide +kernel⟩
theorem ok_lisw {f : Addr} {fd : FuncData} (F : Fun K "_law_is_word" "_law_is_word" sLIsWord f fd) : FnOk P w K mg base CX0 1 f fd ["_law_token_here"] spLIsW := by
  refine F.ok scLIsW (fun vs H Q E h => ?_) (fun cdv A0 outer s H vs Q E hr h => ?_)
  · obtain ⟨z, rfl, _⟩ := h; rfl
  · obtain ⟨z, rfl, hz, q⟩ := h
    refine ⟨_, (pss_cons (ps_for (PassesOwn.never) rfl (pi_str (pv 0)) (pg_name (i := 1) scLIsW.nd rfl (.inl rfl))
      (pss_one (ps_if (pt_cmpR op_notIn_sign (pv 1) pe_str (by with_unfolding_all rfl))
       (pss_one (ps_ret pe_bl))
       pss_nil)))
      (pss_one (ps_ret pe_bl))), ?_⟩
    have hne : (!decide (tl z = [])) = true := by
      rw [decide_eq_false (fun e => by have := congrArg List.length e; rw [tl_len] at this; simp at this; omega)]; rfl
    refine ⟨.str z, rfl, z, rfl, for_it walk_str (fun i σ H' => ∃ y1, σ = [some (.str z), y1] ∧ H' = H ∧ ∀ (j : Nat) c, j < i → (tl z)[j]? = some c → isL c = true) ⟨none, rfl, rfl, fun j c h => absurd h (Nat.not_lt_zero j)⟩ (fun _ _ _ _ _ => trivial) ?_ ?_⟩
    · rintro i v σ H1 H2 hi ⟨y1, rfl, rfl, hall⟩ ⟨rfl, c, hc, rfl⟩
      have hc' : (tl z)[i]? = some c := by simpa [tl] using hc
      refine ⟨.str ⟨#[c]⟩, rfl, c, letters, rfl, rfl, _, rfl, ?_⟩
      rw [nin_letters]
      refine ite2 (fun h => ?_) (fun h => ?_)
      · have h' : isL c = false := by simpa using h
        have e : (tl z).all isL = false := by
          rw [List.all_eq_false]
          exact ⟨c, List.mem_of_getElem? hc', by rw [h']; exact Bool.false_ne_true⟩
        unfold isW at q
        rw [e, Bool.and_false] at q
        exact q
      · refine ⟨_, rfl, rfl, fun j d hj hd => ?_⟩
        by_cases hji : j < i
        · exact hall j d hji hd
        · obtain rfl : j = i := by omega
          rw [hc'] at hd; cases hd
          simpa using h
    · rintro σ H1 ⟨y1, rfl, rfl, hall⟩
      have e : (tl z).all isL = true := by
        rw [List.all_eq_true]
        intro c hc
        obtain ⟨j, hj⟩ := List.mem_iff_getElem?.mp hc
        exact hall j c (by have := (List.getElem?_eq_some_iff.mp hj).1; rw [tl_len] at this; exact this) hj
      unfold isW at q
      rw [e, hne, Bool.true_and] at q
      exact q
/-! ### _law_cuts -/
theorem isW_L {l : List Nat} (h : isW l = true) : ∀ c ∈ l, isL c = true := by
  unfold isW at h
  rw [Bool.and_eq_true, List.all_eq_true] at h
  exact h.2
def spCuts : Sp := fun vs H Q _ => ∃ (a : Addr) (us : List V) (wd : Str) (xs : List Rw), vs = [.ref a, .str wd] ∧ H a = some (.lst us) ∧ RowsL H us xs ∧ (∀ x ∈ xs, Good x) ∧ 1 ≤ wd.length ∧ wd.length ≤ 100 ∧
  ∀ H' o, Same H H' → H o = none → H' o = some (.lst ((cutsOf xs wd).map nV)) → Q (.ref o) H'
theorem scCuts : FnScope ["_law_rows", "_law_token_here", "_law_cuts_here", "_law_gap"] ["_law_rows", "_law_token_here"] (defScope sCuts) := ⟨rfl, rfl, rfl, by decide +kernel, rfl, by decide +kernel, by decide +kernel⟩
theorem ok_cuts {f f_is_word f_is_joint f_says f_fits : Addr} {fd fd_is_word fd_is_joint fd_says fd_fits : FuncData} (B : Blt mg) (F : Fun K "_law_cuts" "_law_cuts" sCuts f fd)
    (F_is_word : Fun K "_law_is_word" "_law_is_word" sLIsWord f_is_word fd_is_word) (b_is_word : Binds K fd_is_word ["_law_token_here"] []) (g_is_word : mg "_law_is_word" = some (.ref f_is_word))
    (F_is_joint : Fun K "_law_is_joint" "_law_is_joint" sLIsJ f_is_joint fd_is_joint) (b_is_joint : Binds K fd_is_joint ["_law_rows", "_law_word_here", "_law_gap"] []) (g_is_joint : mg "_law_is_joint" = some (.ref f_is_joint))
    (F_says : Fun K "_law_says" "_law_says" sLSays f_says fd_says) (b_says : Binds K fd_says ["_law_part", "_law_text"] []) (g_says : mg "_law_says" = some (.ref f_says))
    (F_fits : Fun K "_law_fits" "_law_fits" sLFits f_fits fd_fits) (b_fits : Binds K fd_fits ["_law_row_here", "_law_word_here", "_law_gap"] []) (g_fits : mg "_law_fits" = some (.ref f_fits)) :
    FnOk P w K mg base CX0 4 f fd ["_law_rows", "_law_token_here"] spCuts := by
  have G_is_word : FnOk P w K mg base CX0 1 f_is_word fd_is_word ["_law_token_here"] spLIsW := ok_lisw F_is_word
  have G_is_joint : FnOk P w K mg base CX0 3 f_is_joint fd_is_joint ["_law_rows", "_law_word_here", "_law_gap"] spLIsJ := ok_lisj B F_is_joint F_says b_says g_says F_fits b_fits g_fits
  refine F.ok scCuts (fun vs H Q E h => ?_) (fun cdv A0 outer s H vs Q E hr h => ?_)
  · obtain ⟨a, us, wd, xs, rfl, _⟩ := h; rfl
  · obtain ⟨a, us, wd, xs, rfl, ha, hrow, hgd, hw1, hw, q⟩ := h
    have hr1 : Room 1 _ := hr.mono (by decide)
    refine ⟨_, (pss_cons (ps_if (pt_not (pt_val (pe_call G_is_word hr1 (by rfl) g_is_word F_is_word.kp b_is_word .nil pass0 (pa_cons (pv 1) pa_nil))))
      (pss_one (ps_ret (pe_lst pa_nil)))
      pss_nil)
      (pss_cons (ps_set (i := 2) scCuts.nd rfl (.inl rfl) (pe_lst pa_nil))
      (pss_cons (ps_for (PassesOwn.never) rfl (pi_range2 (by rfl) B.range (pa_cons pe_int (pa_cons (pe_callB call_len (by rfl) B.len PySem.boot_len (pa_cons (pv 1) pa_nil)) pa_nil))) (pg_name (i := 3) scCuts.nd rfl (.inl rfl))
      (pss_one (ps_if (pt_val (pe_call G_is_joint hr (by rfl) g_is_joint F_is_joint.kp b_is_joint .nil pass0 (pa_cons (pv 0) (pa_cons (pv 1) (pa_cons (pv 3) pa_nil)))))
       (pss_one (ps_expr (pe_bm PySem.F.plainAttrs_list PySem.F.slot_list_append PySem.F.type_list_append mt_append (pv 2) (pa_cons (pv 3) pa_nil))))
       pss_nil)))
      (pss_one (ps_ret (pv 2)))))), ?_⟩
    refine ⟨.str wd, rfl, wd, rfl, hw1, _, rfl, ?_⟩
    refine ite2 (fun h => ?_) (fun h => ?_)
    · have h' : isW (tl wd) = false := by simpa using h
      refine ⟨Nat.zero_le _, fun o no => ?_⟩
      refine q _ o (same_new no) no ?_
      rw [upd_same]
      unfold cutsOf
      rw [if_neg (by rw [h']; exact Bool.false_ne_true)]; rfl
    · have h' : isW (tl wd) = true := by simpa using h
      have ec : cutsOf xs wd = gapsOf xs (tl wd) := by unfold cutsOf; rw [if_pos h']
      refine ⟨Nat.zero_le _, fun o no => ?_⟩
      have s1 : Same H (upd H o (.lst [])) := same_new no
      have eo : (upd H o (.lst [])) o = some (.lst ((gapsTo xs (tl wd) 0).map nV)) := upd_same
      generalize upd H o (.lst []) = H1 at s1 eo ⊢
      refine ⟨.str wd, rfl, .str wd, wd.length, rfl, ⟨Nat.le_trans hw (by decide), rfl⟩, 1, (wd.length : Int), rfl, ⟨by decide, by decide, by omega, by omega⟩, ?_⟩
      have en : ((wd.length : Int) - 1).toNat = wd.length - 1 := by omega
      rw [en]
      refine for_range (lo := 1) (n := wd.length - 1) (fun i σ H' => ∃ y3, σ = [some (.ref a), some (.str wd), some (.ref o), y3] ∧ H' o = some (.lst ((gapsTo xs (tl wd) i).map nV)) ∧ Same H H') ⟨none, rfl, eo, s1⟩ ?_ ?_
      · rintro i σ H' hi ⟨y3, rfl, ho, sm⟩
        have eg : (1 : Int) + (i : Int) = ((1 + i : Nat) : Int) := by omega
        rw [eg]
        refine ⟨.ref a, rfl, .str wd, rfl, .int ((1 + i : Nat) : Int), rfl, a, us, wd, 1 + i, xs, rfl, sm _ _ ha, hrow.same sm, hgd, hw, isW_L h', _, rfl, ite2 (fun h => ?_) (fun h => ?_)⟩
        · refine ⟨.ref o, rfl, .inl ⟨rfl, _, SqL.of ho⟩, .int ((1 + i : Nat) : Int), rfl, o, _, _, rfl, rfl, ho, ?_, ?_⟩
          · have := gapsTo_len xs (tl wd) i
            rw [List.length_map]; exact small1000 (by omega)
          · refine ⟨_, rfl, ?_, same_at sm no⟩
            rw [upd_same]
            show _ = some (HO.lst ((gapsTo xs (tl wd) i ++ (if isJ xs (tl wd) (1 + i) = true then [1 + i] else [])).map nV))
            rw [if_pos h, List.map_append]; rfl
        · refine ⟨_, rfl, ?_, sm⟩
          show _ = some (HO.lst ((gapsTo xs (tl wd) i ++ (if isJ xs (tl wd) (1 + i) = true then [1 + i] else [])).map nV))
          rw [if_neg (by simpa using h), List.append_nil]; exact ho
      · rintro σ H' ⟨y3, rfl, ho, sm⟩
        refine ⟨.ref o, rfl, q H' o sm no ?_⟩
        rw [ec]; unfold gapsOf; rw [tl_len]; exact ho
/-! ### _law_syllables -/
def spSyl : Sp := fun vs H Q _ => ∃ (b : Addr) (gs : List Nat) (wd : Str), vs = [.ref b, .str wd] ∧ H b = some (.lst (gs.map nV)) ∧ gs.length ≤ 100 ∧ wd.length ≤ 100 ∧
  ∀ H' o, Same H H' → H o = none → H' o = some (.lst ((pieces wd 0 gs).map V.str)) → Q (.ref o) H'
/-- the pieces ahead of the i-th cut, and where the next one starts -/
def pref (wd : Str) : Nat → List Nat → List Str
  | _, [] => []
  | s, c :: cs => cutS wd (some (s : Int)) (some (c : Int)) :: pref wd c cs
def startOf (s : Nat) : List Nat → Nat
  | [] => s
  | c :: cs => startOf c cs
theorem pref_len (wd : Str) : ∀ (s : Nat) (gs : List Nat), (pref wd s gs).length = gs.length
  | s, [] => rfl
  | s, c :: cs => by unfold pref; rw [List.length_cons, pref_len wd c cs, List.length_cons]
theorem pref_snoc (wd : Str) : ∀ (s : Nat) (gs : List Nat) (c : Nat), pref wd s (gs ++ [c]) = pref wd s gs ++ [cutS wd (some (startOf s gs : Int)) (some (c : Int))] ∧ startOf s (gs ++ [c]) = c
  | s, [], c => ⟨rfl, rfl⟩
  | s, d :: ds, c => by
    obtain ⟨h1, h2⟩ := pref_snoc wd d ds c
    refine ⟨?_, h2⟩
    show _ :: pref wd d (ds ++ [c]) = _
    rw [h1]; rfl
theorem pieces_pref (wd : Str) : ∀ (s : Nat) (gs : List Nat), pieces wd s gs = pref wd s gs ++ [cutS wd (some (startOf s gs : Int)) none]
  | s, [] => rfl
  | s, c :: cs => by
    show _ :: pieces wd c cs = _
    rw [pieces_pref wd c cs]; rfl
theorem scSyl : FnScope ["_law_cuts_here", "_law_token_here", "_law_out", "_law_start", "_law_cut"] ["_law_cuts_here", "_law_token_here"] (defScope sSyl) := ⟨rfl, rfl, rfl, by decide +kernel, rfl, by decide +kernel, by decide +kernel⟩
theorem ok_syl {f : Addr} {fd : FuncData} (F : Fun K "_law_syllables" "_law_syllables" sSyl f fd) : FnOk P w K mg base CX0 1 f fd ["_law_cuts_here", "_law_token_here"] spSyl := by
  refine F.ok scSyl (fun vs H Q E h => ?_) (fun cdv A0 outer s H vs Q E hr h => ?_)
  · obtain ⟨b, gs, wd, rfl, _⟩ := h; rfl
  · obtain ⟨b, gs, wd, rfl, hb, hg, hw, q⟩ := h
    refine ⟨_, (pss_cons (ps_set (i := 2) scSyl.nd rfl (.inl rfl) (pe_lst pa_nil))
      (pss_cons (ps_set (i := 3) scSyl.nd rfl (.inl rfl) pe_int)
      (pss_cons (ps_for (PassesOwn.never) rfl (pi_list (pv 0)) (pg_name (i := 4) scSyl.nd rfl (.inl rfl))
      (pss_cons (ps_expr (pe_bm PySem.F.plainAttrs_list PySem.F.slot_list_append PySem.F.type_list_append mt_append (pv 2) (pa_cons (pe_slice sl_str (pv 1) (po_some (pv 3)) (po_some (pv 4))) pa_nil)))
       (pss_one (ps_set (i := 3) scSyl.nd rfl (.inl rfl) (pv 4)))))
      (pss_cons (ps_expr (pe_bm PySem.F.plainAttrs_list PySem.F.slot_list_append PySem.F.type_list_append mt_append (pv 2) (pa_cons (pe_slice sl_str (pv 1) (po_some (pv 3)) po_none) pa_nil)))
      (pss_one (ps_ret (pv 2))))))), ?_⟩
    refine ⟨Nat.zero_le _, fun o no => ?_⟩
    have s1 : Same H (upd H o (.lst [])) := same_new no
    have eo : (upd H o (.lst [])) o = some (.lst ((pref wd 0 (gs.take 0)).map V.str)) := upd_same
    generalize upd H o (.lst []) = H1 at s1 eo ⊢
    refine ⟨.ref b, rfl, b, rfl, ⟨_, SqL.of (s1 _ _ hb)⟩, for_list (K := K) (a := b) (xs := gs.map nV) (fun i σ H' => ∃ y4, σ = [some (.ref b), some (.str wd), some (.ref o), some (nV (startOf 0 (gs.take i))), y4] ∧ H' o = some (.lst ((pref wd 0 (gs.take i)).map V.str)) ∧ Same H H') ⟨none, rfl, eo, s1⟩ (fun i σ H' _ ⟨_, _, _, s⟩ => SqL.of (s _ _ hb)) ?_ ?_⟩
    · rintro i v σ H' hv ⟨y4, rfl, ho, sm⟩
      rw [List.getElem?_map] at hv
      cases en : gs[i]? with
      | none => rw [en] at hv; cases hv
      | some c =>
      rw [en] at hv; cases hv
      have hilt := (List.getElem?_eq_some_iff.mp en).1
      have et : gs.take (i + 1) = gs.take i ++ [c] := by rw [List.take_add_one, en]; rfl
      obtain ⟨p1, p2⟩ := pref_snoc wd 0 (gs.take i) c
      refine ⟨.ref o, rfl, .inl ⟨rfl, _, SqL.of ho⟩, .str wd, rfl, nV (startOf 0 (gs.take i)), rfl, _, rfl, nV c, rfl, _, rfl, wd, rfl, Nat.le_trans hw (by decide), o, _, _, rfl, rfl, ho, ?_, ?_⟩
      · rw [List.length_map, pref_len, List.length_take]; exact small1000 (by omega)
      · refine ⟨nV c, rfl, some (nV c), ?_, ?_, same_at sm no⟩
        · rw [et, p2]; rfl
        · rw [upd_same, et, p1, List.map_append]; rfl
    · rintro σ H' ⟨y4, rfl, ho, sm⟩
      have et : gs.take (gs.map nV).length = gs := by rw [List.length_map, List.take_length]
      rw [et] at ho
      refine ⟨.ref o, rfl, .inl ⟨rfl, _, SqL.of ho⟩, .str wd, rfl, _, rfl, _, rfl, wd, rfl, Nat.le_trans hw (by decide), o, _, _, rfl, rfl, ho, ?_, ?_⟩
      · rw [List.length_map, pref_len]; exact small1000 (by omega)
      · refine ⟨.ref o, rfl, q _ o (same_at sm no) no ?_⟩
        rw [upd_same, pieces_pref, List.map_append, et]; rfl
end
end K29

set_option maxRecDepth 100000
set_option maxHeartbeats 4000000
namespace K29
open PySem PySem.Spec PyProof.Rows L2 RJ
section
variable {P : Program} {w : World} {K : PySem.W.Frag} {mg : Str → Option Value} {base : Heap} {t1 t2 t3 t4 t5 : Tok}
/-! ### _law_list -/
def spList (K : PySem.W.Frag) : Sp := fun vs H Q _ => ∃ (a : Addr) (ns : List Int) (k : Int) (z : Str), vs = [.ref a, .int k, .str z] ∧ SqL K H a (ns.map V.int) ∧ ns.length ≤ 63 ∧ 0 ≤ k ∧ Alpha z ∧
  ∀ H' o us xs, Same H H' → H o = none → H' o = some (.lst us) → RowsL H' us xs → xs.length ≤ 8 → (∀ x ∈ xs, Good x) → Q (.ref o) H'
abbrev nLi : List Str := ["_law_script", "_law_at", "_law_letters_here", "_law_row_here", "_law_many", "_law_share", "_law_rows", "_law_k", "_law_cell_here"]
theorem scList : FnScope nLi ["_law_script", "_law_at", "_law_letters_here"] (defScope sList) := ⟨rfl, rfl, rfl, by decide +kernel, rfl, by decide +kernel, by decide +kernel⟩
theorem good_all : Good (Str.ofString "", Str.ofString "", false) := by
  have e : tl (Str.ofString "") = [] := by decide +kernel
  exact ⟨by decide, by decide, fun i c h => by rw [show tl ((Str.ofString "", Str.ofString "", false) : Rw).1 = [] from e] at h; simp at h, fun i c h => by rw [show tl ((Str.ofString "", Str.ofString "", false) : Rw).2.1 = [] from e] at h; simp at h⟩
theorem ok_list {f f_cell f_row f_joint : Addr} {fd fd_cell fd_row fd_joint : FuncData} (B : Blt mg) (F : Fun K "_law_list" "_law_list" sList f fd)
    (F_cell : Fun K "_law_cell" "_law_cell" sCell f_cell fd_cell) (b_cell : Binds K fd_cell ["_law_script", "_law_k"] []) (g_cell : mg "_law_cell" = some (.ref f_cell))
    (F_row : Fun K "_law_row" "_law_row" sRow f_row fd_row) (b_row : Binds K fd_row ["_law_cell_here", "_law_limits"] []) (g_row : mg "_law_row" = some (.ref f_row))
    (F_joint : Fun K "_law_joint" "_law_joint" sJoint f_joint fd_joint) (b_joint : Binds K fd_joint ["_law_cell_here", "_law_letters_here", "_law_share"] []) (g_joint : mg "_law_joint" = some (.ref f_joint)) :
    FnOk P w K mg base CX0 3 f fd ["_law_script", "_law_at", "_law_letters_here"] (spList K) := by
  have G_cell : FnOk P w K mg base CX0 1 f_cell fd_cell ["_law_script", "_law_k"] (spCell K) := ok_cell B F_cell
  have G_row : FnOk P w K mg base CX0 1 f_row fd_row ["_law_cell_here", "_law_limits"] (spRow K) := ok_row B F_row
  have G_joint : FnOk P w K mg base CX0 2 f_joint fd_joint ["_law_cell_here", "_law_letters_here", "_law_share"] spJoint := ok_joint B F_joint F_row b_row g_row
  refine F.ok scList (fun vs H Q E h => ?_) (fun cdv A0 outer s H vs Q E hr h => ?_)
  · obtain ⟨a, ns, k, z, rfl, _⟩ := h; rfl
  · obtain ⟨a, ns, k, z, rfl, hS, hlen, hk, hz, q⟩ := h
    have hr1 : Room 1 _ := hr.mono (by decide)
    refine ⟨_, (pss_cons (ps_set (i := 3) scList.nd rfl (.inl rfl) (pe_call G_row hr1 (by rfl) g_row F_row.kp b_row .nil pass0 (pa_cons (pe_call G_cell hr1 (by rfl) g_cell F_cell.kp b_cell .nil pass0 (pa_cons (pv 0) (pa_cons (pv 1) pa_nil))) (pa_cons (pe_lst (pa_cons pe_int (pa_cons pe_int (pa_cons pe_int (pa_cons pe_int pa_nil))))) pa_nil))))
      (pss_cons (ps_set (i := 4) scList.nd rfl (.inl rfl) (pe_ix ix_list (pv 3) pe_int (fun _ _ => rfl)))
      (Evl.pss_cut (ps_if (pt_cmpR op_eq (pe_ix ix_list (pv 3) pe_int (fun _ _ => rfl)) pe_int (nomark _))
      (pss_one (ps_set (i := 4) scList.nd rfl (.inl rfl) (pe_ix ix_list (pv 3) pe_int (fun _ _ => rfl))))
      pss_nil)
      (pss_cons (ps_set (i := 5) scList.nd rfl (.inl rfl) pe_int)
      (Evl.pss_cut (ps_if (pt_cmpR op_gt (pe_ix ix_list (pv 3) pe_int (fun _ _ => rfl)) pe_int (nomark _))
      (pss_one (ps_set (i := 5) scList.nd rfl (.inl rfl) pe_int))
      pss_nil)
      (pss_cons (ps_set (i := 6) scList.nd rfl (.inl rfl) (pe_lst pa_nil))
      (pss_cons (ps_for (PassesOwn.never) rfl (pi_range1 (by rfl) B.range (pa_cons (pv 4) pa_nil)) (pg_name (i := 7) scList.nd rfl (.inl rfl))
      (pss_cons (ps_set (i := 8) scList.nd rfl (.inl rfl) (pe_call G_cell hr1 (by rfl) g_cell F_cell.kp b_cell .nil pass0 (pa_cons (pv 0) (pa_cons (pe_op op_add (pe_op op_add (pv 1) pe_int) (pv 7)) pa_nil))))
       (pss_one (ps_expr (pe_bm PySem.F.plainAttrs_list PySem.F.slot_list_append PySem.F.type_list_append mt_append (pv 6) (pa_cons (pe_call G_joint hr (by rfl) g_joint F_joint.kp b_joint .nil pass0 (pa_cons (pe_op op_add (pv 8) (pv 7)) (pa_cons (pv 2) (pa_cons (pv 5) pa_nil)))) pa_nil))))))
      (pss_cons (ps_if (pt_cmpR op_gt (pe_ix ix_list (pv 3) pe_int (fun _ _ => rfl)) pe_int (nomark _))
      (pss_one (ps_expr (pe_bm PySem.F.plainAttrs_list PySem.F.slot_list_append PySem.F.type_list_append mt_append (pv 6) (pa_cons (pe_tup (pa_cons pe_str (pa_cons pe_str (pa_cons pe_bl pa_nil)))) pa_nil))))
      pss_nil)
      (pss_one (ps_ret (pv 6))))))))))), ?_⟩
    refine ⟨.ref a, rfl, .int k, rfl, a, ns, k, rfl, hS, hlen, hk, fun c1 => ⟨(by show 4 ≤ sizeLine; decide), fun l nl => ?_⟩⟩
    refine ⟨c1, l, [4, 5, 8, 3], rfl, SqL.of (by rw [upd_same]; rfl), by decide, by decide, fun H2 R rs s2 nR eR hrow => ?_⟩
    have sA : Same H H2 := (same_new nl).trans s2
    obtain ⟨g0, a0, g00, g01⟩ := hrow.2 0 4 rfl
    obtain ⟨g1, a1, g10, g11⟩ := hrow.2 1 5 rfl
    obtain ⟨g2, a2, g20, g21⟩ := hrow.2 2 8 rfl
    obtain ⟨g3, a3, g30, g31⟩ := hrow.2 3 3 rfl
    refine ⟨.ref R, rfl, R, _, 1, .int g1, rfl, rfl, SqL.of eR, atI_nat (j := 1) (at1 a1), ?_⟩
    refine ⟨fun σ H' => ∃ m : Nat, σ = [some (.ref a), some (.int k), some (.str z), some (.ref R), some (.int (m : Int)), none, none, none, none] ∧ H2 = H' ∧ m ≤ 7, ?_, ?_⟩
    · obtain ⟨n, en, n7⟩ : ∃ n : Nat, g1 = (n : Int) ∧ n ≤ 7 := ⟨g1.toNat, by omega, by omega⟩
      obtain ⟨n2, en2, n27⟩ : ∃ n : Nat, g2 = (n : Int) ∧ n ≤ 7 := ⟨g2.toNat, by omega, by omega⟩
      refine ⟨.ref R, rfl, R, _, 0, .int g0, rfl, rfl, SqL.of eR, atI_nat (j := 0) (at1 a0), rfl, _, rfl, ite2 (fun _ => ?_) (fun _ => ⟨n, by rw [en]; rfl, rfl, n7⟩)⟩
      refine ⟨.ref R, rfl, R, _, 2, .int g2, rfl, rfl, SqL.of eR, atI_nat (j := 2) (at1 a2), n2, by rw [en2]; rfl, rfl, n27⟩
    rintro σ _ ⟨m, rfl, rfl, hm7⟩
    refine ⟨fun σ H' => ∃ sh : Int, σ = [some (.ref a), some (.int k), some (.str z), some (.ref R), some (.int (m : Int)), some (.int sh), none, none, none] ∧ H2 = H', ?_, ?_⟩
    · refine ⟨.ref R, rfl, R, _, 3, .int g3, rfl, rfl, SqL.of eR, atI_nat (j := 3) (at1 a3), g3, 0, rfl, rfl, _, rfl, ite2 (fun _ => ⟨2, rfl, rfl⟩) (fun _ => ⟨1, rfl, rfl⟩)⟩
    rintro σ _ ⟨sh, rfl, rfl⟩
    refine ⟨Nat.zero_le _, fun o no => ?_⟩
    have so : Same H2 (upd H2 o (.lst [])) := same_new no
    have eo : (upd H2 o (.lst [])) o = some (.lst []) := upd_same
    have noH : H o = none := sA.free no
    generalize upd H2 o (.lst []) = H3 at so eo ⊢
    refine ⟨.int (m : Int), rfl, (m : Int), rfl, by omega, by omega, ?_⟩
    rw [Int.toNat_natCast]
    refine for_range (lo := 0) (n := m) (fun i σ H' => ∃ (y7 y8 : Option V) (us : List V) (xs : List Rw), σ = [some (.ref a), some (.int k), some (.str z), some (.ref R), some (.int (m : Int)), some (.int sh), some (.ref o), y7, y8] ∧ Same H2 H' ∧ H' o = some (.lst us) ∧ RowsL H' us xs ∧ xs.length = i ∧ ∀ x ∈ xs, Good x)
      ⟨none, none, [], [], rfl, so, eo, RowsL.nil, rfl, fun x h => absurd h List.not_mem_nil⟩ ?_ ?_
    · rintro i σ H' hi ⟨y7, y8, us, xs, rfl, sm, ho, hrw, hxl, hgd⟩
      have e0 : (0 : Int) + (i : Int) = (i : Int) := by omega
      rw [e0]
      have hul := hrw.1
      refine ⟨.ref a, rfl, .int k, rfl, k, 1, rfl, rfl, .int (i : Int), rfl, k + 1, (i : Int), rfl, rfl, a, ns, k + 1 + (i : Int), rfl, (sA.trans sm).seq hS, hlen, by omega, fun c => ?_⟩
      refine ⟨.ref o, rfl, .inl ⟨rfl, _, SqL.of ho⟩, .int c, rfl, .int (i : Int), rfl, c, (i : Int), rfl, rfl, .str z, rfl, .int sh, rfl, c + (i : Int), sh, z, rfl, hz, fun H4 t x s4 ht gx => ?_⟩
      refine ⟨o, us, .ref t, rfl, rfl, s4 _ _ ho, small1000 (by omega), ?_⟩
      have ho4 := s4 _ _ ho
      have st : ∀ b ys, H' b = some (.tup ys) → upd H4 o (.lst (us ++ [.ref t])) b = some (.tup ys) := fun b ys e => by
        rw [upd_ne (ne_of (s4 _ _ e) ho4 (by intro z; cases z))]; exact s4 _ _ e
      refine ⟨some (.int (i : Int)), some (.int c), us ++ [.ref t], xs ++ [x], rfl, same_at (sm.trans s4) no, upd_same, (hrw.mono st).snoc ⟨t, rfl, by rw [upd_ne (ne_of ht ho4 (by intro z; cases z))]; exact ht⟩, by rw [List.length_append, hxl]; rfl, fun y hy => ?_⟩
      rcases List.mem_append.mp hy with h | h
      · exact hgd y h
      · rw [List.mem_singleton.mp h]; exact gx
    rintro σ H4 ⟨y7, y8, us, xs, rfl, sm4, ho, hrw, hxl, hgd⟩
    have hul := hrw.1
    have sB : Same H H4 := sA.trans sm4
    refine ⟨.ref R, rfl, R, _, 3, .int g3, rfl, rfl, SqL.of (sm4 _ _ eR), atI_nat (j := 3) (at1 a3), g3, 0, rfl, rfl, _, rfl, ite2 (fun _ => ?_) (fun _ => ⟨.ref o, rfl, q H4 o us xs sB noH ho hrw (by omega) hgd⟩)⟩
    refine ⟨.ref o, rfl, .inl ⟨rfl, _, SqL.of ho⟩, (by show 3 ≤ sizeLine; decide), fun t nt => ?_⟩
    have sT : Same H4 (upd H4 t (.tup [.str (Str.ofString ""), .str (Str.ofString ""), .bl false])) := same_new nt
    have eT : upd H4 t (.tup [.str (Str.ofString ""), .str (Str.ofString ""), .bl false]) t = some (.tup [.str (Str.ofString ""), .str (Str.ofString ""), .bl false]) := upd_same
    generalize upd H4 t (.tup [.str (Str.ofString ""), .str (Str.ofString ""), .bl false]) = H5 at sT eT ⊢
    have ho5 := sT _ _ ho
    refine ⟨o, us, .ref t, rfl, rfl, ho5, small1000 (by omega), ?_⟩
    have st : ∀ b ys, H4 b = some (.tup ys) → upd H5 o (.lst (us ++ [.ref t])) b = some (.tup ys) := fun b ys e => by
      rw [upd_ne (ne_of (sT _ _ e) ho5 (by intro z; cases z))]; exact sT _ _ e
    refine ⟨.ref o, rfl, q _ o (us ++ [.ref t]) (xs ++ [(Str.ofString "", Str.ofString "", false)]) (sA.trans (same_at (sm4.trans sT) no)) noH upd_same ((hrw.mono st).snoc ⟨t, rfl, by rw [upd_ne (ne_of eT ho5 (by intro z; cases z))]; exact eT⟩) (by rw [List.length_append]; show xs.length + 1 ≤ 8; omega) fun y hy => ?_⟩
    rcases List.mem_append.mp hy with h | h
    · exact hgd y h
    · rw [List.mem_singleton.mp h]; exact good_all
/-! ### _law_token -/
def sg : Str := Str.ofString "!\"#$&'()*+,-./0123456789:;<=>?@ABCDEFGHIJKLMNOPQRSTUVWXYZ^_" ++ Str.ofString "~}|{" ++ Str.ofString "`"
theorem sg_len : sg.length = 64 := by decide +kernel
def spToken (K : PySem.W.Frag) : Sp := fun vs H Q _ => ∃ (a : Addr) (ns : List Int) (k : Int) (z : Str), vs = [.ref a, .int k, .str z] ∧ SqL K H a (ns.map V.int) ∧ ns.length ≤ 63 ∧ 0 ≤ k ∧ Alpha z ∧ ∀ H' y, Same H H' → 1 ≤ y.length → y.length ≤ 40 → Q (.str y) H'
abbrev nTo : List Str := ["_law_script", "_law_k", "_law_letters_here", "_law_word_here", "_law_signs", "_law_row_here", "_law_at"]
theorem scToken : FnScope nTo ["_law_script", "_law_k", "_law_letters_here"] (defScope sToken) := ⟨rfl, rfl, rfl, by decide +kernel, rfl, by decide +kernel, by decide +kernel⟩
theorem ok_token {f f_cell f_row f_word : Addr} {fd fd_cell fd_row fd_word : FuncData} (B : Blt mg) (F : Fun K "_law_token" "_law_token" sToken f fd)
    (F_cell : Fun K "_law_cell" "_law_cell" sCell f_cell fd_cell) (b_cell : Binds K fd_cell ["_law_script", "_law_k"] []) (g_cell : mg "_law_cell" = some (.ref f_cell))
    (F_row : Fun K "_law_row" "_law_row" sRow f_row fd_row) (b_row : Binds K fd_row ["_law_cell_here", "_law_limits"] []) (g_row : mg "_law_row" = some (.ref f_row))
    (F_word : Fun K "_law_word" "_law_word" sWord f_word fd_word) (b_word : Binds K fd_word ["_law_cell_here", "_law_letters_here"] []) (g_word : mg "_law_word" = some (.ref f_word)) :
    FnOk P w K mg base CX0 3 f fd ["_law_script", "_law_k", "_law_letters_here"] (spToken K) := by
  have G_cell : FnOk P w K mg base CX0 1 f_cell fd_cell ["_law_script", "_law_k"] (spCell K) := ok_cell B F_cell
  have G_row : FnOk P w K mg base CX0 1 f_row fd_row ["_law_cell_here", "_law_limits"] (spRow K) := ok_row B F_row
  have G_word : FnOk P w K mg base CX0 2 f_word fd_word ["_law_cell_here", "_law_letters_here"] spWord := ok_word B F_word F_row b_row g_row
  refine F.ok scToken (fun vs H Q E h => ?_) (fun cdv A0 outer s H vs Q E hr h => ?_)
  · obtain ⟨a, ns, k, z, rfl, _⟩ := h; rfl
  · obtain ⟨a, ns, k, z, rfl, hS, hlen, hk, hz, q⟩ := h
    have hr1 : Room 1 _ := hr.mono (by decide)
    refine ⟨_, (pss_cons (ps_set (i := 3) scToken.nd rfl (.inl rfl) (pe_call G_word hr (by rfl) g_word F_word.kp b_word .nil pass0 (pa_cons (pe_op op_add (pe_call G_cell hr1 (by rfl) g_cell F_cell.kp b_cell .nil pass0 (pa_cons (pv 0) (pa_cons (pe_op op_add pe_int (pv 1)) pa_nil))) (pv 1)) (pa_cons (pv 2) pa_nil))))
      (pss_cons (ps_set (i := 4) scToken.nd rfl (.inl rfl) (pe_op op_add_str (pe_op op_add_str pe_str pe_str) pe_str))
      (pss_cons (ps_set (i := 5) scToken.nd rfl (.inl rfl) (pe_call G_row hr1 (by rfl) g_row F_row.kp b_row .nil pass0 (pa_cons (pe_op op_add (pe_call G_cell hr1 (by rfl) g_cell F_cell.kp b_cell .nil pass0 (pa_cons (pv 0) (pa_cons (pe_op op_add pe_int (pv 1)) pa_nil))) (pv 1)) (pa_cons (pe_lst (pa_cons pe_int (pa_cons pe_int (pa_cons pe_int pa_nil)))) pa_nil))))
      (pss_cons (ps_if (pt_cmpR op_gt (pe_ix ix_list (pv 5) pe_int (fun _ _ => rfl)) pe_int (nomark _))
      (pss_one (ps_ret (pv 3)))
      pss_nil)
      (pss_cons (ps_set (i := 6) scToken.nd rfl (.inl rfl) (pe_op op_modN (pe_callTy call_int1 (by rfl) B.int (by decide +kernel) (pa_cons (pe_ix ix_list (pv 5) pe_int (fun _ _ => rfl)) pa_nil)) (pe_callB call_len (by rfl) B.len PySem.boot_len (pa_cons (pv 3) pa_nil))))
      (pss_one (ps_ret (pe_op op_add_str (pe_op op_add_str (pe_slice sl_str (pv 3) po_none (po_some (pv 6))) (pe_ix ix_str (pv 4) (pe_ix ix_list (pv 5) pe_int (fun _ _ => rfl)) (fun _ _ => rfl))) (pe_slice sl_str (pv 3) (po_some (pe_op op_add (pv 6) pe_int)) po_none))))))))), ?_⟩
    have line : ∀ n : Nat, n ≤ 300 → n ≤ sizeLine := fun n h => Nat.le_trans h (by decide)
    refine ⟨.ref a, rfl, .int k, rfl, 9, k, rfl, rfl, a, ns, 9 + k, rfl, hS, hlen, by omega, fun c1 => ⟨.int k, rfl, c1, k, rfl, rfl, .str z, rfl, _, z, rfl, hz, fun H1 y s1 hy => ?_⟩⟩
    have y1 := hy.lo; have y40 := hy.hi
    refine ⟨_, _, rfl, rfl, by decide +kernel, _, _, rfl, rfl, by decide +kernel, ?_⟩
    refine ⟨.ref a, rfl, .int k, rfl, 12, k, rfl, rfl, a, ns, 12 + k, rfl, s1.seq hS, hlen, by omega, fun c2 => ⟨.int k, rfl, c2, k, rfl, rfl, (by show 3 ≤ sizeLine; decide), fun l nl => ?_⟩⟩
    refine ⟨_, l, [3, 40, 64], rfl, SqL.of (by rw [upd_same]; rfl), by decide, by decide, fun H2 R rs s2 nR eR hrow => ?_⟩
    have sA : Same H H2 := s1.trans ((same_new nl).trans s2)
    obtain ⟨g0, a0, g00, g01⟩ := hrow.2 0 3 rfl
    obtain ⟨g1, a1, g10, g11⟩ := hrow.2 1 40 rfl
    obtain ⟨g2, a2, g20, g21⟩ := hrow.2 2 64 rfl
    refine ⟨.ref R, rfl, R, _, 0, .int g0, rfl, rfl, SqL.of eR, atI_nat (j := 0) (at1 a0), g0, 0, rfl, rfl, _, rfl, ite2 (fun _ => ⟨.str y, rfl, q _ y sA y1 y40⟩) (fun _ => ?_)⟩
    obtain ⟨cc, hcc, hccm⟩ := pick (z := sg) g20 (by rw [sg_len]; exact g21)
    refine ⟨.ref R, rfl, R, _, 1, .int g1, rfl, rfl, SqL.of eR, atI_nat (j := 1) (at1 a1), .inl ⟨g1, rfl, .str y, rfl, .str y, y.length, rfl, ⟨line _ (by omega), rfl⟩, g1, (y.length : Int), rfl, rfl, (show (y.length : Int) ≠ 0 by omega), ?_⟩⟩
    have m0 : 0 ≤ g1.fmod (y.length : Int) := Int.fmod_nonneg_of_pos _ (by omega)
    have m1 : g1.fmod (y.length : Int) < (y.length : Int) := Int.fmod_lt_of_pos _ (by omega)
    obtain ⟨n, en⟩ : ∃ n : Nat, g1.fmod (y.length : Int) = (n : Int) := ⟨(g1.fmod (y.length : Int)).toNat, by omega⟩
    dsimp only
    rw [en] at m0 m1 ⊢
    have hn : n < y.length := by omega
    have eA : tl (cutS y none (some (n : Int))) = (tl y).take n := cut_to y n
    have eB : tl (cutS y (some ((n + 1 : Nat) : Int)) none) = (tl y).drop (n + 1) := cut_from y (n + 1)
    have lA : (cutS y none (some (n : Int))).length = n := by rw [← tl_len, eA, List.length_take, tl_len]; omega
    have lB : (cutS y (some ((n + 1 : Nat) : Int)) none).length = y.length - (n + 1) := by rw [← tl_len, eB, List.length_drop, tl_len]
    have l1 : (cutS y none (some (n : Int)) ++ ⟨#[cc]⟩).length = n + 1 := by rw [len_add, lA]; rfl
    have l2 : (cutS y none (some (n : Int)) ++ ⟨#[cc]⟩ ++ cutS y (some ((n + 1 : Nat) : Int)) none).length = y.length := by rw [len_add, l1, lB]; omega
    refine ⟨.str y, rfl, .int (n : Int), rfl, _, rfl, y, rfl, line _ (by omega), .str sg, rfl, .ref R, rfl, R, _, 2, .int g2, rfl, rfl, SqL.of eR, atI_nat (j := 2) (at1 a2), sg, g2, cc, rfl, rfl, by rw [sg_len]; decide, hcc, _, _, rfl, rfl, line _ (by rw [lA]; show n + 1 ≤ 300; omega),
      .str y, rfl, .int (n : Int), rfl, _, 1, rfl, rfl, ((n + 1 : Nat) : Int), congrArg V.int (by omega), y, rfl, line _ (by omega), _, _, rfl, rfl, line _ (by rw [l1, lB]; omega), ?_⟩
    exact q _ _ sA (by rw [l2]; omega) (by rw [l2]; omega)
/-! ### _law_same -/
theorem ty_txt {H : Hp} {z : Str} : TyX K H (.str z) (.type "str") := .base (.str z)
theorem ty_lst {H : Hp} {a : Addr} {xs : List V} (h : H a = some (.lst xs)) : TyX K H (.ref a) (.type "list") := .base (.lst h)
def Leaf (v : V) : Prop := (∃ z, v = .str z) ∨ ∃ i, v = .int i
def spLeaf : Sp := fun vs H Q _ => ∃ v, vs = [v, v] ∧ Leaf v ∧ Q (.bl true) H
theorem scSame : FnScope ["_law_one", "_law_two", "_law_k"] ["_law_one", "_law_two"] (defScope sSame) := ⟨rfl, rfl, rfl, by decide +kernel, rfl, by decide +kernel, by decide +kernel⟩
theorem ok_leaf {f : Addr} {fd : FuncData} (B : Blt mg) (F : Fun K "_law_same" "_law_same" sSame f fd) : FnOk P w K mg base CX0 1 f fd ["_law_one", "_law_two"] spLeaf := by
  refine F.ok scSame (fun vs H Q E h => ?_) (fun cdv A outer s H vs Q E hr h => ?_)
  · obtain ⟨v, rfl, _⟩ := h; rfl
  · obtain ⟨v, rfl, hv, q⟩ := h
    refine ⟨_, (pss_cons (ps_if (pt_cmpR op_isN (pv 1) pe_non (nomark _)) (pss_one ps_never) pss_nil)
      (pss_cons (ps_if (pt_val (pe_callB call_isi (by rfl) B.isi (by decide +kernel) (pa_cons (pv 1) (pa_cons (pe_bltn (v := .ty "bool") (by rfl) B.bool (by decide +kernel) rfl) pa_nil)))) (pss_one ps_never) pss_nil)
      (pss_cons (ps_if (pt_val (pe_callB call_isi (by rfl) B.isi (by decide +kernel) (pa_cons (pv 1) (pa_cons (pe_bltn (v := .ty "int") (by rfl) B.int (by decide +kernel) rfl) pa_nil))))
      (pss_one (ps_ret (pe_and (pe_callB call_isi (by rfl) B.isi (by decide +kernel) (pa_cons (pv 0) (pa_cons (pe_bltn (v := .ty "int") (by rfl) B.int (by decide +kernel) rfl) pa_nil))) (pe_and (pe_not (pe_callB call_isi (by rfl) B.isi (by decide +kernel) (pa_cons (pv 0) (pa_cons (pe_bltn (v := .ty "bool") (by rfl) B.bool (by decide +kernel) rfl) pa_nil)))) (pe_one (pe_cmpR op_eq (pv 0) (pv 1) (nomark _)))))))
      pss_nil)
      (pss_cons (ps_if (pt_val (pe_callB call_isi (by rfl) B.isi (by decide +kernel) (pa_cons (pv 1) (pa_cons (pe_bltn (v := .ty "str") (by rfl) B.str (by decide +kernel) rfl) pa_nil))))
      (pss_one (ps_ret (pe_and (pe_callB call_isi (by rfl) B.isi (by decide +kernel) (pa_cons (pv 0) (pa_cons (pe_bltn (v := .ty "str") (by rfl) B.str (by decide +kernel) rfl) pa_nil))) (pe_one (pe_cmpR op_eq (pv 0) (pv 1) (nomark _))))))
      pss_nil)
      (pss_cons ps_never (pss_cons ps_never (pss_cons ps_never (pss_one ps_never)))))))), ?_⟩
    rcases hv with ⟨z, rfl⟩ | ⟨i, rfl⟩
    · refine ⟨.str z, rfl, rfl, _, rfl, iteF ?_⟩
      refine ⟨.str z, rfl, .str z, .ty "bool", .type "str", .type "bool", false, rfl, .ty "bool", ty_txt, kit_ty (by decide +kernel), _, rfl, iteF ?_⟩
      refine ⟨.str z, rfl, .str z, .ty "int", .type "str", .type "int", false, rfl, .ty "int", ty_txt, kit_ty (by decide +kernel), _, rfl, iteF ?_⟩
      refine ⟨.str z, rfl, .str z, .ty "str", .type "str", .type "str", true, rfl, .ty "str", ty_txt, kit_ty (by decide +kernel), _, rfl, iteT ?_⟩
      refine ⟨.str z, rfl, .str z, .ty "str", .type "str", .type "str", true, rfl, .ty "str", ty_txt, kit_ty (by decide +kernel), _, rfl, iteT ?_⟩
      refine ⟨.str z, rfl, .str z, rfl, rfl, ?_⟩
      rw [decide_eq_true rfl]; exact q
    · refine ⟨.int i, rfl, rfl, _, rfl, iteF ?_⟩
      refine ⟨.int i, rfl, .int i, .ty "bool", .type "int", .type "bool", false, rfl, .ty "bool", .base (.int i), kit_ty (by decide +kernel), _, rfl, iteF ?_⟩
      refine ⟨.int i, rfl, .int i, .ty "int", .type "int", .type "int", true, rfl, .ty "int", .base (.int i), kit_ty (by decide +kernel), _, rfl, iteT ?_⟩
      refine ⟨.int i, rfl, .int i, .ty "int", .type "int", .type "int", true, rfl, .ty "int", .base (.int i), kit_ty (by decide +kernel), _, rfl, iteT ?_⟩
      refine ⟨.int i, rfl, .int i, .ty "bool", .type "int", .type "bool", false, rfl, .ty "bool", .base (.int i), kit_ty (by decide +kernel), _, rfl, _, rfl, iteT ?_⟩
      refine ⟨.int i, rfl, .int i, rfl, rfl, ?_⟩
      rw [decide_eq_true rfl]; exact q
def spSame : Sp := fun vs H Q _ => ∃ (a b : Addr) (xs : List V), vs = [.ref a, .ref b] ∧ H a = some (.lst xs) ∧ H b = some (.lst xs) ∧ (∀ v ∈ xs, Leaf v) ∧ xs.length ≤ 1000 ∧ Q (.bl true) H
theorem ok_same {f_same : Addr} {fd_same : FuncData} (B : Blt mg) (F_same : Fun K "_law_same" "_law_same" sSame f_same fd_same) (b_same : Binds K fd_same ["_law_one", "_law_two"] []) (g_same : mg "_law_same" = some (.ref f_same)) : FnOk P w K mg base CX0 2 f_same fd_same ["_law_one", "_law_two"] spSame := by
  have G_same : FnOk P w K mg base CX0 1 f_same fd_same ["_law_one", "_law_two"] spLeaf := ok_leaf B F_same
  refine F_same.ok scSame (fun vs H Q E h => ?_) (fun cdv A outer s H vs Q E hr h => ?_)
  · obtain ⟨a, b, xs, rfl, _⟩ := h; rfl
  · obtain ⟨a, b, xs, rfl, ha, hb, hlf, hx, q⟩ := h
    refine ⟨_, (pss_cons (ps_if (pt_cmpR op_isN (pv 1) pe_non (nomark _)) (pss_one ps_never) pss_nil)
      (pss_cons (ps_if (pt_val (pe_callB call_isi (by rfl) B.isi (by decide +kernel) (pa_cons (pv 1) (pa_cons (pe_bltn (v := .ty "bool") (by rfl) B.bool (by decide +kernel) rfl) pa_nil)))) (pss_one ps_never) pss_nil)
      (pss_cons (ps_if (pt_val (pe_callB call_isi (by rfl) B.isi (by decide +kernel) (pa_cons (pv 1) (pa_cons (pe_bltn (v := .ty "int") (by rfl) B.int (by decide +kernel) rfl) pa_nil)))) (pss_one ps_never) pss_nil)
      (pss_cons (ps_if (pt_val (pe_callB call_isi (by rfl) B.isi (by decide +kernel) (pa_cons (pv 1) (pa_cons (pe_bltn (v := .ty "str") (by rfl) B.str (by decide +kernel) rfl) pa_nil)))) (pss_one ps_never) pss_nil)
      (pss_cons (ps_if (PW.pt (pw_and (pt_val (pe_callB call_isi (by rfl) B.isi (by decide +kernel) (pa_cons (pv 1) (pa_cons (pe_bltn (v := .ty "tuple") (by rfl) B.tuple (by decide +kernel) rfl) pa_nil)))) (pw_and1 (pt_not (pt_val (pe_callB call_isi (by rfl) B.isi (by decide +kernel) (pa_cons (pv 0) (pa_cons (pe_bltn (v := .ty "tuple") (by rfl) B.tuple (by decide +kernel) rfl) pa_nil)))))))) (pss_one ps_never) pss_nil)
      (pss_cons (ps_if (PW.pt (pw_and (pt_val (pe_callB call_isi (by rfl) B.isi (by decide +kernel) (pa_cons (pv 1) (pa_cons (pe_bltn (v := .ty "list") (by rfl) B.list (by decide +kernel) rfl) pa_nil)))) (pw_and1 (pt_not (pt_val (pe_callB call_isi (by rfl) B.isi (by decide +kernel) (pa_cons (pv 0) (pa_cons (pe_bltn (v := .ty "list") (by rfl) B.list (by decide +kernel) rfl) pa_nil)))))))) (pss_one ps_never) pss_nil)
      (pss_cons (ps_if (PW.pt (pw_or (pt_val (pe_callB call_isi (by rfl) B.isi (by decide +kernel) (pa_cons (pv 1) (pa_cons (pe_bltn (v := .ty "tuple") (by rfl) B.tuple (by decide +kernel) rfl) pa_nil)))) (pw_or1 (pt_val (pe_callB call_isi (by rfl) B.isi (by decide +kernel) (pa_cons (pv 1) (pa_cons (pe_bltn (v := .ty "list") (by rfl) B.list (by decide +kernel) rfl) pa_nil)))))))
       (pss_cons (ps_if (pt_cmpR op_ne (pe_callB call_len (by rfl) B.len PySem.boot_len (pa_cons (pv 0) pa_nil)) (pe_callB call_len (by rfl) B.len PySem.boot_len (pa_cons (pv 1) pa_nil)) (nomark _)) (pss_one (ps_ret pe_bl)) pss_nil)
       (pss_cons (ps_for (PassesOwn.never) rfl (pi_range1 (by rfl) B.range (pa_cons (pe_callB call_len (by rfl) B.len PySem.boot_len (pa_cons (pv 1) pa_nil)) pa_nil)) (pg_name (i := 2) scSame.nd rfl (.inl rfl))
        (pss_one (ps_if (pt_not (pt_val (pe_call G_same hr (by rfl) g_same F_same.kp b_same .nil pass0 (pa_cons (pe_ix ix_list (pv 0) (pv 2) (fun _ _ => rfl)) (pa_cons (pe_ix ix_list (pv 1) (pv 2) (fun _ _ => rfl)) pa_nil)))))
         (pss_one (ps_ret pe_bl))
         pss_nil)))
       (pss_one (ps_ret pe_bl)))) pss_nil)
      (pss_one ps_never)))))))), ?_⟩
    refine ⟨.ref b, rfl, rfl, _, rfl, iteF ?_⟩
    refine ⟨.ref b, rfl, .ref b, .ty "bool", .type "list", .type "bool", false, rfl, .ty "bool", ty_lst hb, kit_ty (by decide +kernel), _, rfl, iteF ?_⟩
    refine ⟨.ref b, rfl, .ref b, .ty "int", .type "list", .type "int", false, rfl, .ty "int", ty_lst hb, kit_ty (by decide +kernel), _, rfl, iteF ?_⟩
    refine ⟨.ref b, rfl, .ref b, .ty "str", .type "list", .type "str", false, rfl, .ty "str", ty_lst hb, kit_ty (by decide +kernel), _, rfl, iteF ?_⟩
    refine ⟨.ref b, rfl, .ref b, .ty "tuple", .type "list", .type "tuple", false, rfl, .ty "tuple", ty_lst hb, kit_ty (by decide +kernel), _, rfl, iteF ?_⟩
    refine ⟨.ref b, rfl, .ref b, .ty "list", .type "list", .type "list", true, rfl, .ty "list", ty_lst hb, kit_ty (by decide +kernel), _, rfl, iteT ?_⟩
    refine ⟨.ref a, rfl, .ref a, .ty "list", .type "list", .type "list", true, rfl, .ty "list", ty_lst ha, kit_ty (by decide +kernel), _, rfl, iteF ?_⟩
    refine ⟨.ref b, rfl, .ref b, .ty "tuple", .type "list", .type "tuple", false, rfl, .ty "tuple", ty_lst hb, kit_ty (by decide +kernel), _, rfl, iteF ?_⟩
    refine ⟨.ref b, rfl, .ref b, .ty "list", .type "list", .type "list", true, rfl, .ty "list", ty_lst hb, kit_ty (by decide +kernel), _, rfl, iteT ?_⟩
    refine ⟨.ref a, rfl, .ref a, xs.length, rfl, .inl ⟨_, SqL.of ha, rfl⟩, .ref b, rfl, .ref b, xs.length, rfl, .inl ⟨_, SqL.of hb, rfl⟩, rfl, _, rfl, ?_⟩
    rw [decide_eq_true rfl]
    refine iteF ⟨.ref b, rfl, .ref b, xs.length, rfl, .inl ⟨_, SqL.of hb, rfl⟩, (xs.length : Int), rfl, by omega, by omega, ?_⟩
    rw [Int.toNat_natCast]
    refine for_range (lo := 0) (n := xs.length) (fun n σ H' => ∃ y, σ = [some (.ref a), some (.ref b), y] ∧ H' = H) ⟨none, rfl, rfl⟩ ?_ ?_
    · rintro k σ H' hk ⟨y, rfl, rfl⟩
      have e0 : (0 : Int) + (k : Int) = (k : Int) := by omega
      rw [e0]
      have g1 : xs[k]? = some (xs[k]'hk) := by simp
      refine ⟨.ref a, rfl, .int (k : Int), rfl, a, xs, (k : Int), _, rfl, rfl, SqL.of ha, atI_nat g1, .ref b, rfl, .int (k : Int), rfl, b, xs, (k : Int), _, rfl, rfl, SqL.of hb, atI_nat g1, ?_⟩
      exact ⟨_, rfl, hlf _ (List.getElem_mem hk), true, rfl, iteF ⟨_, rfl, rfl⟩⟩
    · rintro σ H' ⟨y, rfl, rfl⟩
      exact q
end
end K29

set_option maxRecDepth 100000
set_option maxHeartbeats 8000000
namespace K29
open PySem PySem.Spec PyProof.Rows L2 RJ
theorem leafS (zs : List Str) : ∀ v ∈ zs.map V.str, Leaf v := fun v h => by
  obtain ⟨z, _, rfl⟩ := List.mem_map.mp h; exact .inl ⟨z, rfl⟩
theorem leafN (gs : List Nat) : ∀ v ∈ gs.map nV, Leaf v := fun v h => by
  obtain ⟨z, _, rfl⟩ := List.mem_map.mp h; exact .inr ⟨_, rfl⟩
theorem cuts_len (xs : List Rw) (wd : Str) (h : wd.length ≤ 100) : (cutsOf xs wd).length ≤ 100 := by
  unfold cutsOf
  split
  · have := gapsTo_len xs (tl wd) ((tl wd).length - 1)
    unfold gapsOf; rw [tl_len] at this ⊢; omega
  · exact Nat.zero_le _
/-- what the law holds -/
structure Wd (C : Addr) (H : Hp) (o L p l1 l2 W : Addr) (us : List V) (zs : List Str) (xs : List Rw) (ws : List Str) : Prop where
  ho : H o = some (.lst us)
  r1 : RowsL H us xs
  hL : H L = some (.lst (zs.map V.str))
  hW : H W = some (.lst (ws.map V.str))
  j : JAt C H p l1 l2 zs xs
theorem Wd.same {C : Addr} {H H' : Hp} {o L p l1 l2 W : Addr} {us : List V} {zs : List Str} {xs : List Rw} {ws : List Str} (h : Wd C H o L p l1 l2 W us zs xs ws) (s : Same H H') : Wd C H' o L p l1 l2 W us zs xs ws :=
  ⟨s _ _ h.ho, h.r1.same s, s _ _ h.hL, s _ _ h.hW, h.j.same s⟩
section
variable {P : Program} {w : World} {K : PySem.W.Frag} {mg : Str → Option Value} {base : Heap} {t1 t2 t3 t4 t5 : Tok}
def spLaw (K : PySem.W.Frag) : Sp := fun vs H Q _ => ∃ (a : Addr) (ns : List Int), vs = [.ref a] ∧ SqL K H a (ns.map V.int) ∧ ns.length ≤ 63 ∧ ∀ H', Q (.bl true) H'
abbrev nLaw : List Str := ["_law_script", "_law_letters_here", "_law_rows", "_law_lines", "_law_joints", "_law_tokens", "_law_turn", "_law_token_here", "_law_cuts_here", "_law_due", "_law_told", "_law_row_here", "_law_k"]
theorem scLaw : FnScope nLaw ["_law_script"] (defScope sLaw) := ⟨rfl, rfl, rfl, by decide +kernel, rfl, by decide +kernel, by decide +kernel⟩
theorem ok_law {C f f_init f_len f_iter f_decider f_is_joint f_gaps f_call f_is_letter f_is_part f_read_joint f_says f_fits f_is_word f_cell f_row f_same f_letters f_joint f_written f_list f_lsays f_lfits f_lisj f_word f_token f_lisw f_cuts f_syllables : Addr} {fd fd_init fd_len fd_iter fd_decider fd_is_joint fd_gaps fd_call fd_is_letter fd_is_part fd_read_joint fd_says fd_fits fd_is_word fd_cell fd_row fd_same fd_letters fd_joint fd_written fd_list fd_lsays fd_lfits fd_lisj fd_word fd_token fd_lisw fd_cuts fd_syllables : FuncData}
    (B : Blt mg) (Z : Cst mg t1 t2 t3 t4 t5) (T : Txt K mg C) (M : Mk K C f_init) (F : Fun K "law" "law" sLaw f fd)
    (F_init : Fun K "__init__" "Joints.__init__" sInit f_init fd_init) (b_init : Binds K fd_init ["self", "lines"] [])
    (F_len : Fun K "__len__" "Joints.__len__" sLen f_len fd_len) (b_len : Binds K fd_len ["self"] []) (m_len : PySem.W.findIn K (.ref C) "__len__" = some (some (.ref f_len)) ∧ PySem.W.typeIn K (.ref f_len) = some (.type "function"))
    (F_iter : Fun K "__iter__" "Joints.__iter__" sIter f_iter fd_iter) (b_iter : Binds K fd_iter ["self"] []) (m_iter : PySem.W.findIn K (.ref C) "__iter__" = some (some (.ref f_iter)) ∧ PySem.W.isFn K (.ref f_iter) = true)
    (F_decider : Fun K "decider" "Joints.decider" sDec f_decider fd_decider) (b_decider : Binds K fd_decider ["self", "word", "gap"] []) (m_decider : Meth K C "decider" f_decider)
    (F_is_joint : Fun K "is_joint" "Joints.is_joint" sIsJ f_is_joint fd_is_joint) (b_is_joint : Binds K fd_is_joint ["self", "word", "gap"] []) (m_is_joint : Meth K C "is_joint" f_is_joint)
    (F_gaps : Fun K "gaps" "Joints.gaps" sGaps f_gaps fd_gaps) (b_gaps : Binds K fd_gaps ["self", "word"] []) (m_gaps : Meth K C "gaps" f_gaps)
    (F_call : Fun K "__call__" "Joints.__call__" sCall f_call fd_call) (b_call : Binds K fd_call ["self", "token"] []) (m_call : StX.CallO K C f_call)
    (F_is_letter : Fun K "is_letter" "is_letter" sLetter f_is_letter fd_is_letter) (b_is_letter : Binds K fd_is_letter ["char"] []) (g_is_letter : mg "is_letter" = some (.ref f_is_letter))
    (F_is_part : Fun K "_is_part" "_is_part" sPart f_is_part fd_is_part) (b_is_part : Binds K fd_is_part ["text", "end"] []) (g_is_part : mg "_is_part" = some (.ref f_is_part))
    (F_read_joint : Fun K "_read_joint" "_read_joint" sRead f_read_joint fd_read_joint) (b_read_joint : Binds K fd_read_joint ["line"] []) (g_read_joint : mg "_read_joint" = some (.ref f_read_joint))
    (F_says : Fun K "_says" "_says" sSays f_says fd_says) (b_says : Binds K fd_says ["part", "text"] []) (g_says : mg "_says" = some (.ref f_says))
    (F_fits : Fun K "_fits" "_fits" sFits f_fits fd_fits) (b_fits : Binds K fd_fits ["row", "word", "gap"] []) (g_fits : mg "_fits" = some (.ref f_fits))
    (F_is_word : Fun K "is_word" "is_word" sIsWord f_is_word fd_is_word) (b_is_word : Binds K fd_is_word ["text"] []) (g_is_word : mg "is_word" = some (.ref f_is_word))
    (F_cell : Fun K "_law_cell" "_law_cell" sCell f_cell fd_cell) (b_cell : Binds K fd_cell ["_law_script", "_law_k"] []) (g_cell : mg "_law_cell" = some (.ref f_cell))
    (F_row : Fun K "_law_row" "_law_row" sRow f_row fd_row) (b_row : Binds K fd_row ["_law_cell_here", "_law_limits"] []) (g_row : mg "_law_row" = some (.ref f_row))
    (F_same : Fun K "_law_same" "_law_same" sSame f_same fd_same) (b_same : Binds K fd_same ["_law_one", "_law_two"] []) (g_same : mg "_law_same" = some (.ref f_same))
    (F_letters : Fun K "_law_letters" "_law_letters" sLetters f_letters fd_letters) (b_letters : Binds K fd_letters ["_law_cell_here"] []) (g_letters : mg "_law_letters" = some (.ref f_letters))
    (F_joint : Fun K "_law_joint" "_law_joint" sJoint f_joint fd_joint) (b_joint : Binds K fd_joint ["_law_cell_here", "_law_letters_here", "_law_share"] []) (g_joint : mg "_law_joint" = some (.ref f_joint))
    (F_written : Fun K "_law_written" "_law_written" sWritten f_written fd_written) (b_written : Binds K fd_written ["_law_row_here"] []) (g_written : mg "_law_written" = some (.ref f_written))
    (F_list : Fun K "_law_list" "_law_list" sList f_list fd_list) (b_list : Binds K fd_list ["_law_script", "_law_at", "_law_letters_here"] []) (g_list : mg "_law_list" = some (.ref f_list))
    (F_lsays : Fun K "_law_says" "_law_says" sLSays f_lsays fd_lsays) (b_lsays : Binds K fd_lsays ["_law_part", "_law_text"] []) (g_lsays : mg "_law_says" = some (.ref f_lsays))
    (F_lfits : Fun K "_law_fits" "_law_fits" sLFits f_lfits fd_lfits) (b_lfits : Binds K fd_lfits ["_law_row_here", "_law_word_here", "_law_gap"] []) (g_lfits : mg "_law_fits" = some (.ref f_lfits))
    (F_lisj : Fun K "_law_is_joint" "_law_is_joint" sLIsJ f_lisj fd_lisj) (b_lisj : Binds K fd_lisj ["_law_rows", "_law_word_here", "_law_gap"] []) (g_lisj : mg "_law_is_joint" = some (.ref f_lisj))
    (F_word : Fun K "_law_word" "_law_word" sWord f_word fd_word) (b_word : Binds K fd_word ["_law_cell_here", "_law_letters_here"] []) (g_word : mg "_law_word" = some (.ref f_word))
    (F_token : Fun K "_law_token" "_law_token" sToken f_token fd_token) (b_token : Binds K fd_token ["_law_script", "_law_k", "_law_letters_here"] []) (g_token : mg "_law_token" = some (.ref f_token))
    (F_lisw : Fun K "_law_is_word" "_law_is_word" sLIsWord f_lisw fd_lisw) (b_lisw : Binds K fd_lisw ["_law_token_here"] []) (g_lisw : mg "_law_is_word" = some (.ref f_lisw))
    (F_cuts : Fun K "_law_cuts" "_law_cuts" sCuts f_cuts fd_cuts) (b_cuts : Binds K fd_cuts ["_law_rows", "_law_token_here"] []) (g_cuts : mg "_law_cuts" = some (.ref f_cuts))
    (F_syllables : Fun K "_law_syllables" "_law_syllables" sSyl f_syllables fd_syllables) (b_syllables : Binds K fd_syllables ["_law_cuts_here", "_law_token_here"] []) (g_syllables : mg "_law_syllables" = some (.ref f_syllables)) :
    FnOk P w K mg base CX0 8 f fd ["_law_script"] (spLaw K) := by
  have G_init : FnOk P w K mg base CX0 4 f_init fd_init ["self", "lines"] (spInit C) := ok_init B Z T F_init F_is_letter b_is_letter g_is_letter F_is_part b_is_part g_is_part F_read_joint b_read_joint g_read_joint
  have G_len : FnOk P w K mg base CX0 1 f_len fd_len ["self"] (spLen C) := ok_len B T F_len
  have G_iter : RO.FnN P w K mg base CX0 1 f_iter fd_iter ["self"] (RO.spIt C "_lines") := ok_iter B T F_iter
  have G_gaps : FnOk P w K mg base CX0 6 f_gaps fd_gaps ["self", "word"] (spGaps C) := ok_gaps B Z T F_gaps F_is_joint b_is_joint m_is_joint F_decider b_decider m_decider F_is_letter b_is_letter g_is_letter F_says b_says g_says F_fits b_fits g_fits
  have G_call : FnOk P w K mg base CX0 7 f_call fd_call ["self", "token"] (spCallJ C) := ok_callj B Z T F_call F_is_word b_is_word g_is_word F_gaps b_gaps m_gaps F_is_joint b_is_joint m_is_joint F_decider b_decider m_decider F_is_letter b_is_letter g_is_letter F_says b_says g_says F_fits b_fits g_fits
  have G_cell : FnOk P w K mg base CX0 1 f_cell fd_cell ["_law_script", "_law_k"] (spCell K) := ok_cell B F_cell
  have G_letters : FnOk P w K mg base CX0 2 f_letters fd_letters ["_law_cell_here"] spLetters := ok_letters B F_letters F_row b_row g_row
  have G_list : FnOk P w K mg base CX0 3 f_list fd_list ["_law_script", "_law_at", "_law_letters_here"] (spList K) := ok_list B F_list F_cell b_cell g_cell F_row b_row g_row F_joint b_joint g_joint
  have G_written : FnOk P w K mg base CX0 1 f_written fd_written ["_law_row_here"] spWritten := ok_written F_written
  have G_token : FnOk P w K mg base CX0 3 f_token fd_token ["_law_script", "_law_k", "_law_letters_here"] (spToken K) := ok_token B F_token F_cell b_cell g_cell F_row b_row g_row F_word b_word g_word
  have G_lisw : FnOk P w K mg base CX0 1 f_lisw fd_lisw ["_law_token_here"] spLIsW := ok_lisw F_lisw
  have G_cuts : FnOk P w K mg base CX0 4 f_cuts fd_cuts ["_law_rows", "_law_token_here"] spCuts := ok_cuts B F_cuts F_lisw b_lisw g_lisw F_lisj b_lisj g_lisj F_lsays b_lsays g_lsays F_lfits b_lfits g_lfits
  have G_syllables : FnOk P w K mg base CX0 1 f_syllables fd_syllables ["_law_cuts_here", "_law_token_here"] spSyl := ok_syl F_syllables
  have G_same : FnOk P w K mg base CX0 2 f_same fd_same ["_law_one", "_law_two"] spSame := ok_same B F_same b_same g_same
  refine F.ok scLaw (fun vs H Q E h => ?_) (fun cdv A0 outer s H vs Q E hr h => ?_)
  · obtain ⟨a, ns, rfl, _⟩ := h; rfl
  · obtain ⟨a, ns, rfl, hS, hlen, q⟩ := h
    have hr1 : Room 1 _ := hr.mono (by decide)
    have hr2 : Room 2 _ := hr.mono (by decide)
    have hr3 : Room 3 _ := hr.mono (by decide)
    have hr4 : Room 4 _ := hr.mono (by decide)
    have hr5 : Room 5 _ := hr.mono (by decide)
    have hr6 : Room 6 _ := hr.mono (by decide)
    refine ⟨_, (pss_cons (ps_set (i := 1) scLaw.nd rfl (.inr rfl) (pe_call G_letters hr2 (by rfl) g_letters F_letters.kp b_letters .nil pass0 (pa_cons (pe_call G_cell hr1 (by rfl) g_cell F_cell.kp b_cell .nil pass0 (pa_cons (pv 0) (pa_cons pe_int pa_nil))) pa_nil)))
      (pss_cons (ps_set (i := 2) scLaw.nd rfl (.inl rfl) (pe_call G_list hr3 (by rfl) g_list F_list.kp b_list .nil pass0 (pa_cons (pv 0) (pa_cons pe_int (pa_cons (pv 1) pa_nil)))))
      (pss_cons (ps_setLc (i := 3) (own := [("_law_row_here", 11)]) (g := gName 11) (tt := tYes) rfl scLaw.nd rfl rfl (sw_true rfl rfl rfl (by decide +kernel)) (pi_list (pv 2)) (blkOk_by (N := nLaw) (sc := defScope sLaw) (by decide +kernel)) (fun _ _ _ _ _ => (pg_name (i := 11) scLaw.nd rfl (.inl rfl))) (fun _ _ _ _ _ => pts_nil) (fun _ _ _ _ _ => (pe_call G_written hr1 (by rfl) g_written F_written.kp b_written .nil pass0 (pa_cons (pv 11) pa_nil))))
      (pss_cons (ps_set (i := 4) scLaw.nd rfl (.inl rfl) (pe_make M G_init hr5 (by rfl) T.mgC b_init .nil pass0 (pa_cons (pe_callTy call_list_of (by rfl) B.list (by decide +kernel) (pa_cons (pv 3) pa_nil)) pa_nil)))
      (pss_cons (ps_setLc (i := 5) (own := [("_law_k", 12)]) (g := gName 12) (tt := tYes) rfl scLaw.nd rfl rfl (sw_true rfl rfl rfl (by decide +kernel)) (pi_range1 (by rfl) B.range (pa_cons pe_int pa_nil)) (blkOk_by (N := nLaw) (sc := defScope sLaw) (by decide +kernel)) (fun _ _ _ _ _ => (pg_name (i := 12) scLaw.nd rfl (.inl rfl))) (fun _ _ _ _ _ => pts_nil) (fun _ _ _ _ _ => (pe_call G_token hr3 (by rfl) g_token F_token.kp b_token .nil pass0 (pa_cons (pv 0) (pa_cons (pv 12) (pa_cons (pv 1) pa_nil))))))
      (pss_cons (ps_for (PassesOwn.never) rfl (pi_range1 (by rfl) B.range (pa_cons pe_int pa_nil)) (pg_name (i := 6) scLaw.nd rfl (.inl rfl))
      (pss_one (ps_for (PassesOwn.never) rfl (pi_list (pv 5)) (pg_name (i := 7) scLaw.nd rfl (.inl rfl))
       (pss_cons (ps_set (i := 8) scLaw.nd rfl (.inl rfl) (pe_call G_cuts hr4 (by rfl) g_cuts F_cuts.kp b_cuts .nil pass0 (pa_cons (pv 2) (pa_cons (pv 7) pa_nil))))
        (pss_cons (ps_set (i := 9) scLaw.nd rfl (.inl rfl) (pe_call G_syllables hr1 (by rfl) g_syllables F_syllables.kp b_syllables .nil pass0 (pa_cons (pv 8) (pa_cons (pv 7) pa_nil))))
        (pss_cons (ps_set (i := 10) scLaw.nd rfl (.inl rfl) (StX.pe_callO (pv 4) m_call (FnOk.raw G_call b_call .nil) hr pass0 (pa_cons (pv 7) pa_nil)))
        (pss_cons (ps_if (pt_not (pt_val (pe_call G_same hr2 (by rfl) g_same F_same.kp b_same .nil pass0 (pa_cons (pv 10) (pa_cons (pv 9) pa_nil)))))
        (pss_one (ps_ret pe_bl))
        pss_nil)
        (pss_cons (ps_asg pe_str (pg_sub (pv 10) pe_int set_list))
        (pss_cons (ps_expr (pe_bm PySem.F.plainAttrs_list PySem.F.slot_list_append PySem.F.type_list_append mt_append (pv 10) (pa_cons (pv 7) pa_nil)))
        (pss_cons (ps_if (pt_not (pt_val (pe_call G_lisw hr1 (by rfl) g_lisw F_lisw.kp b_lisw .nil pass0 (pa_cons (pv 7) pa_nil))))
        (pss_one ps_continue)
        pss_nil)
        (pss_cons (ps_set (i := 10) scLaw.nd rfl (.inl rfl) (pe_meth (pv 4) T.cl m_gaps G_gaps hr6 b_gaps .nil pass0 (pa_cons (pv 7) pa_nil)))
        (pss_cons (ps_if (pt_not (pt_val (pe_call G_same hr2 (by rfl) g_same F_same.kp b_same .nil pass0 (pa_cons (pv 10) (pa_cons (pv 8) pa_nil)))))
        (pss_one (ps_ret pe_bl))
        pss_nil)
        (pss_one (ps_expr (pe_bm PySem.F.plainAttrs_list PySem.F.slot_list_insert PySem.F.type_list_insert mt_insert (pv 10) (pa_cons pe_int (pa_cons pe_int pa_nil)))))))))))))))))
      (pss_one (ps_ret (pe_call G_same hr2 (by rfl) g_same F_same.kp b_same .nil pass0 (pa_cons (pe_callTy (RO.call_listOwnL ⟨m_iter.1, m_iter.2, G_iter, b_iter⟩ ⟨m_len.1, m_len.2, G_len, b_len⟩ rfl hr4) (by rfl) B.list (by decide +kernel) (pa_cons (pv 4) pa_nil)) (pa_cons (pv 3) pa_nil))))))))))), ?_⟩
    refine ⟨.ref a, rfl, a, ns, 0, rfl, hS, hlen, by decide, fun c0 => ⟨c0, rfl, fun H1 z s1 hz => ?_⟩⟩
    refine ⟨.ref a, rfl, .str z, rfl, a, ns, 1, z, rfl, s1.seq hS, hlen, by decide, hz, fun H2 o us xs s2 no ho hrw hx8 hgd => ?_⟩
    have hul := hrw.1
    have sA : Same H H2 := s1.trans s2
    -- the lines
    refine ⟨.ref o, rfl, o, rfl, ⟨_, SqL.of ho⟩, fun L nL => ?_⟩
    refine lc_list (K := K) (a := o) (xs := us) (fun i H' => ∃ zs : List Str, H' L = some (.lst (zs.map V.str)) ∧ zs.length = i ∧ (∀ (j : Nat) y x, zs[j]? = some y → xs[j]? = some x → tl y = wrt (tl x.1) (tl x.2.1) x.2.2) ∧ Same H2 H')
      ⟨[], upd_same, rfl, fun j y x h => by simp at h, same_new nL⟩ (fun i H' _ ⟨_, _, _, _, s⟩ => SqL.of (s _ _ ho)) ?_ ?_
    · rintro i v H' hi ⟨zs, hh, hzl, hall, sm⟩
      obtain ⟨x, hx, t, rfl, ht⟩ := hrw.get hi
      have hilt := (List.getElem?_eq_some_iff.mp hi).1
      refine ⟨rfl, .ref t, rfl, t, x, rfl, sm _ _ ht, hgd x (List.mem_of_getElem? hx), fun y hy => ⟨_, hh, small1000 (by rw [List.length_map]; omega), zs ++ [y], by rw [upd_same, map_snocS], by rw [List.length_append, hzl]; rfl, fun j y' x' h1 h2 => ?_, same_at sm nL⟩⟩
      by_cases hj : j < zs.length
      · rw [List.getElem?_append_left hj] at h1
        exact hall j y' x' h1 h2
      · have hj2 := (List.getElem?_eq_some_iff.mp h1).1
        rw [List.length_append, List.length_singleton] at hj2
        obtain rfl : j = i := by omega
        rw [List.getElem?_append_right (by omega), hzl, Nat.sub_self] at h1
        cases h1
        rw [hx] at h2; cases h2
        exact hy
    rintro H3 ⟨zs, hL, hzl, hall, sm3⟩
    have sB : Same H H3 := sA.trans sm3
    have ho3 := sm3 _ _ ho
    have hrw3 := hrw.same sm3
    -- the joints
    refine ⟨.ref L, rfl, L, _, rfl, .inl (SqL.of hL), fun hd nhd => ?_⟩
    have s4 : Same H3 (upd H3 hd (.lst (zs.map V.str))) := same_new nhd
    have hh4 : upd H3 hd (.lst (zs.map V.str)) hd = some (.lst (zs.map V.str)) := upd_same
    generalize upd H3 hd (.lst (zs.map V.str)) = H4 at s4 hh4 ⊢
    refine fun p dx np ndx nedx => ?_
    have sI : Same H4 (upd (upd H4 dx (.own p)) p (.ins C dx [])) := fun b ob e => by
      rw [upd_ne (ne_of_none e np), upd_ne (ne_of_none e ndx)]; exact e
    refine ⟨p, dx, hd, zs, xs, rfl, upd_same, sI _ _ hh4, by omega, by omega, fun i y x h1 h2 => ⟨hall i y x h1 h2, hgd x (List.mem_of_getElem? h2)⟩, fun H5 l1 l2 kp nl1 nl2 j1 => ⟨rfl, ?_⟩⟩
    have s5 : Same H4 H5 := fun b ob e => kp b ob (ne_of_none e np) (sI _ _ e)
    have s35 : Same H3 H5 := s4.trans s5
    have sC : Same H H5 := sB.trans s35
    -- the tokens
    refine ⟨3, rfl, by decide, by decide, fun W nW => ?_⟩
    refine lc_range (lo := 0) (n := 3) (fun i H' => ∃ ws : List Str, H' W = some (.lst (ws.map V.str)) ∧ ws.length = i ∧ (∀ y ∈ ws, 1 ≤ y.length ∧ y.length ≤ 40) ∧ Same H5 H')
      ⟨[], upd_same, rfl, fun y h => absurd h List.not_mem_nil, same_new nW⟩ ?_ ?_
    · rintro i H' hi ⟨ws, hW, hwl, hwd, sm⟩
      refine ⟨rfl, .ref a, rfl, .int (0 + (i : Int)), rfl, .str z, rfl, a, ns, 0 + (i : Int), z, rfl, (sC.trans sm).seq hS, hlen, by omega, hz, fun H'' y s hy1 hy2 => ?_⟩
      refine ⟨_, s _ _ hW, small1000 (by rw [List.length_map]; omega), ws ++ [y], by rw [upd_same, map_snocS], by rw [List.length_append, hwl]; rfl, fun x hx => ?_, same_at (sm.trans s) nW⟩
      rcases List.mem_append.mp hx with h | h
      · exact hwd x h
      · rw [List.mem_singleton.mp h]; exact ⟨hy1, hy2⟩
    rintro H6 ⟨ws, hW, hwl, hwd, sm6⟩
    have wd : Wd C H6 o L p l1 l2 W us zs xs ws := ⟨sm6 _ _ (s35 _ _ ho3), (hrw3.same s35).same sm6, sm6 _ _ (s35 _ _ hL), hW, j1.same sm6⟩
    clear hW j1 ho3 hrw3 hL ho hrw
    refine ⟨2, rfl, by decide, by decide, ?_⟩
    refine for_range (lo := 0) (n := 2) (fun i σ H' => ∃ (y6 y7 y8 y9 y10 : Option V), σ = [some (.ref a), some (.str z), some (.ref o), some (.ref L), some (.ref p), some (.ref W), y6, y7, y8, y9, y10, none, none] ∧ Same H6 H')
      ⟨none, none, none, none, none, rfl, Same.refl _⟩ ?_ ?_
    · rintro i σ H' hi ⟨y6, y7, y8, y9, y10, rfl, smi⟩
      refine ⟨.ref W, rfl, W, rfl, ⟨_, SqL.of (smi _ _ wd.hW)⟩, for_list (K := K) (a := W) (xs := ws.map V.str) (fun j σ H'' => ∃ (y7 y8 y9 y10 : Option V), σ = [some (.ref a), some (.str z), some (.ref o), some (.ref L), some (.ref p), some (.ref W), some (.int (0 + (i : Int))), y7, y8, y9, y10, none, none] ∧ Same H6 H'')
        ⟨y7, y8, y9, y10, rfl, smi⟩ (fun j σ H'' _ ⟨_, _, _, _, _, s⟩ => SqL.of (s _ _ wd.hW)) ?_ ?_⟩
      · rintro j v σ H7 hj ⟨y7, y8, y9, y10, rfl, sm7⟩
        rw [List.getElem?_map] at hj
        cases en : ws[j]? with
        | none => rw [en] at hj; cases hj
        | some wo =>
        rw [en] at hj; cases hj
        obtain ⟨w1, w40⟩ := hwd wo (List.mem_of_getElem? en)
        have w100 : wo.length ≤ 100 := by omega
        have wd7 := wd.same sm7
        refine ⟨.ref o, rfl, .str wo, rfl, o, us, wo, xs, rfl, wd7.ho, wd7.r1, hgd, w1, w100, fun H8 c s8 nc ec => ?_⟩
        have wd8 := wd7.same s8
        have hcl := cuts_len xs wo w100
        refine ⟨.ref c, rfl, .str wo, rfl, c, cutsOf xs wo, wo, rfl, ec, hcl, w100, fun H9 d s9 nd ed => ?_⟩
        have wd9 := wd8.same s9
        obtain ⟨dx', fs', us', hp', ff', hl1', hl2', hr'⟩ := id wd9.j
        refine ⟨.ref p, rfl, p, rfl, .str wo, rfl, .inr ⟨dx', fs', hp'⟩, p, l1, l2, wo, zs, xs, rfl, wd9.j, hgd, w1, w100, fun H10 e s10 ne ee => ?_⟩
        have hpl : ((sylOf xs wo).map V.str).length = (cutsOf xs wo).length + 1 := by rw [List.length_map]; exact pieces_len wo 0 _
        refine ⟨.ref e, rfl, .ref d, rfl, e, d, _, rfl, ee, s10 _ _ ed, leafS _, by rw [hpl]; omega, true, rfl, iteF ?_⟩
        have s710 : Same H7 H10 := s8.trans (s9.trans s10)
        have ne7 : H7 e = none := (s8.trans s9).free ne
        have ne8 : H8 e = none := s9.free ne
        have ix0 : ixN ((sylOf xs wo).map V.str).length 0 = some 0 := by rw [hpl]; simp [ixN]; try omega
        refine ⟨.ref e, rfl, e, _, 0, 0, rfl, rfl, ee, ix0, ?_⟩
        have s11 : Same H8 (upd H10 e (.lst (((sylOf xs wo).map V.str).set 0 (.str (Str.ofString "-"))))) := same_at (s9.trans s10) ne8
        have e11 : upd H10 e (.lst (((sylOf xs wo).map V.str).set 0 (.str (Str.ofString "-")))) e = some (.lst (((sylOf xs wo).map V.str).set 0 (.str (Str.ofString "-")))) := upd_same
        generalize upd H10 e (.lst (((sylOf xs wo).map V.str).set 0 (.str (Str.ofString "-")))) = H11 at s11 e11 ⊢
        refine ⟨.ref e, rfl, .inl ⟨rfl, _, SqL.of e11⟩, .str wo, rfl, e, _, _, rfl, rfl, e11, small1000 (by rw [List.length_set, hpl]; omega), ?_⟩
        have s12 : Same H8 (upd H11 e (.lst (((sylOf xs wo).map V.str).set 0 (.str (Str.ofString "-")) ++ [.str wo]))) := same_at s11 ne8
        generalize upd H11 e (.lst (((sylOf xs wo).map V.str).set 0 (.str (Str.ofString "-")) ++ [.str wo])) = H12 at s12 ⊢
        have sm12 : Same H6 H12 := sm7.trans (s8.trans s12)
        refine ⟨.str wo, rfl, wo, rfl, w1, _, rfl, ite2 (fun h => ?_) (fun h => ?_)⟩
        · exact ⟨_, _, _, _, rfl, sm12⟩
        · have h' : isW (tl wo) = true := by simpa using h
          have ecu : cutsOf xs wo = gapsOf xs (tl wo) := by unfold cutsOf; rw [if_pos h']
          have wd12 := wd.same sm12
          obtain ⟨dx2, fs2, us2, hp2, ff2, hl12, hl22, hr2'⟩ := id wd12.j
          refine ⟨.ref p, rfl, p, dx2, fs2, rfl, hp2, ff2.ga, .str wo, rfl, p, l1, l2, wo, zs, xs, rfl, wd12.j, hgd, w1, w100, fun H13 g s13 ng eg => ?_⟩
          rw [← ecu] at eg
          refine ⟨.ref g, rfl, .ref c, rfl, g, c, _, rfl, eg, s13 _ _ (s12 _ _ ec), leafN _, by rw [List.length_map]; omega, true, rfl, iteF ?_⟩
          refine ⟨.ref g, rfl, .inl ⟨rfl, _, SqL.of eg⟩, g, _, 0, .int 0, rfl, rfl, eg, small1000 (by rw [List.length_map]; omega), by decide, by decide, ?_⟩
          exact ⟨_, _, _, _, rfl, same_at (sm12.trans s13) (sm12.free ng)⟩
      · rintro σ H'' ⟨y7, y8, y9, y10, rfl, smj⟩
        exact ⟨_, _, _, _, _, rfl, smj⟩
    · rintro σ H' ⟨y6, y7, y8, y9, y10, rfl, smi⟩
      have wdl := wd.same smi
      obtain ⟨dx', fs', us', hp', ff', hl1', hl2', hr'⟩ := id wdl.j
      refine ⟨.ref p, rfl, p, dx', l1, fs', zs.map V.str, zs.length, rfl, hp', ff'.li, hl1', by rw [List.length_map]; omega, Nat.le_trans (show zs.length ≤ 1000 by omega) (by decide), fun H'' s' => ⟨p, l1, l2, zs, xs, rfl, wdl.j.same s', by omega, rfl, rfl⟩, fun r nr => ?_⟩
      refine ⟨.ref L, rfl, r, L, _, rfl, upd_same, (same_new nr) _ _ wdl.hL, leafS _, by rw [List.length_map]; omega, q _⟩
end
end K29

set_option maxRecDepth 100000
set_option maxHeartbeats 4000000
namespace K29
open PySem PySem.Spec PyProof.Rows L2
theorem all_mk {l : PySem.W.OpenLaw} {w : World} {K : PySem.W.Frag} {h : Heap} {mg : Str → Option Value} {fa C f1 f2 f3 f4 f5 f6 f7 f8 f9 f10 f11 f12 f13 f14 f15 f16 f17 f18 f19 f20 f21 f22 f23 f24 f25 f26 f27 f28 f29 : Addr} (X : K.In h) (G : h.Ns mainGlobals mg) (hfa : mg "law" = some (.ref fa))
    {tk0 tk1 tk2 tk3 tk4 : Tok}
    {od1 an1 od2 an2 od3 an3 od4 an4 od5 an5 od6 an6 od7 an7 od8 an8 od9 an9 od10 an10 od11 an11 od12 an12 od13 an13 od14 an14 od15 an15 od16 an16 od17 an17 od18 an18 od19 an19 od20 an20 od21 an21 od22 an22 od23 an23 od24 an24 od25 an25 od26 an26 od27 an27 od28 an28 od29 an29 : Option Addr} {sl1 sl2 sl3 sl4 sl5 sl6 sl7 sl8 sl9 sl10 sl11 sl12 sl13 sl14 sl15 sl16 sl17 sl18 sl19 sl20 sl21 sl22 sl23 sl24 sl25 sl26 sl27 sl28 sl29 : Array (Option Value)}
    {oc1 kV1 dc1 pm1 cd1 ct1 oc2 kV2 dc2 pm2 cd2 ct2 oc3 kV3 dc3 pm3 cd3 ct3 oc4 kV4 dc4 pm4 cd4 ct4 oc5 kV5 dc5 pm5 cd5 ct5 oc6 kV6 dc6 pm6 cd6 ct6 oc7 kV7 dc7 pm7 cd7 ct7 oc8 kV8 dc8 pm8 cd8 ct8 oc9 kV9 dc9 pm9 cd9 ct9 oc10 kV10 dc10 pm10 cd10 ct10 oc11 kV11 dc11 pm11 cd11 ct11 oc12 kV12 dc12 pm12 cd12 ct12 oc13 kV13 dc13 pm13 cd13 ct13 oc14 kV14 dc14 pm14 cd14 ct14 oc15 kV15 dc15 pm15 cd15 ct15 oc16 kV16 dc16 pm16 cd16 ct16 oc17 kV17 dc17 pm17 cd17 ct17 oc18 kV18 dc18 pm18 cd18 ct18 oc19 kV19 dc19 pm19 cd19 ct19 oc20 kV20 dc20 pm20 cd20 ct20 oc21 kV21 dc21 pm21 cd21 ct21 oc22 kV22 dc22 pm22 cd22 ct22 oc23 kV23 dc23 pm23 cd23 ct23 oc24 kV24 dc24 pm24 cd24 ct24 oc25 kV25 dc25 pm25 cd25 ct25 oc26 kV26 dc26 pm26 cd26 ct26 oc27 kV27 dc27 pm27 cd27 ct27 oc28 kV28 dc28 pm28 cd28 ct28 oc29 kV29 dc29 pm29 cd29 ct29 : Value}
    (c_MOST_JOINT_ROWS : PySem.W.nsIn K mainGlobals "MOST_JOINT_ROWS" = some (some (.int 8 tk0)))
    (c_LONGEST_PART : PySem.W.nsIn K mainGlobals "LONGEST_PART" = some (some (.int 3 tk1)))
    (c_ANY_LETTER : PySem.W.nsIn K mainGlobals "ANY_LETTER" = some (some (.str (Str.ofString "?") tk2)))
    (c_WORD_END : PySem.W.nsIn K mainGlobals "WORD_END" = some (some (.str (Str.ofString ".") tk3)))
    (c_FORBIDS : PySem.W.nsIn K mainGlobals "FORBIDS" = some (some (.str (Str.ofString " no") tk4)))
    (aC : PySem.W.nsIn K mainGlobals "Joints" = some (some (.ref C)))
    (pgC : PySem.W.plainGet K C Str.empty = true)
    (hdC : PySem.W.hasDictIn K C = true)
    (poC : PySem.W.plainOver K C = true)
    (saC : PySem.W.findIn K (.ref C) "__setattr__" = some (some (.builtin "object.__setattr__")))
    (mkC : PySem.W.makesIn K C = true)
    (kcC : PySem.W.keepIn K (.ref C) = true)
    (nC_lines : PySem.W.findIn K (.ref C) "_lines" = some none)
    (nC_rows : PySem.W.findIn K (.ref C) "_rows" = some none)
    (a1 : PySem.W.nsIn K mainGlobals "is_letter" = some (some (.ref f1)))
    (l1 : K.lookup f1 = some ⟨oc1, od1, .func (PySem.W.fnOf "is_letter" "is_letter" (defArgs sLetter) (defBody sLetter) (defScope sLetter) .none kV1 dc1 pm1 an1 cd1 ct1), sl1⟩)
    (c1 : PySem.W.codeIn K cd1 "is_letter" = true)
    (k1 : PySem.W.keepIn K (.ref f1) = true)
    (a2 : PySem.W.nsIn K mainGlobals "_is_part" = some (some (.ref f2)))
    (l2 : K.lookup f2 = some ⟨oc2, od2, .func (PySem.W.fnOf "_is_part" "_is_part" (defArgs sPart) (defBody sPart) (defScope sPart) .none kV2 dc2 pm2 an2 cd2 ct2), sl2⟩)
    (c2 : PySem.W.codeIn K cd2 "_is_part" = true)
    (k2 : PySem.W.keepIn K (.ref f2) = true)
    (a3 : PySem.W.nsIn K mainGlobals "_read_joint" = some (some (.ref f3)))
    (l3 : K.lookup f3 = some ⟨oc3, od3, .func (PySem.W.fnOf "_read_joint" "_read_joint" (defArgs sRead) (defBody sRead) (defScope sRead) .none kV3 dc3 pm3 an3 cd3 ct3), sl3⟩)
    (c3 : PySem.W.codeIn K cd3 "_read_joint" = true)
    (k3 : PySem.W.keepIn K (.ref f3) = true)
    (a4 : PySem.W.nsIn K mainGlobals "_says" = some (some (.ref f4)))
    (l4 : K.lookup f4 = some ⟨oc4, od4, .func (PySem.W.fnOf "_says" "_says" (defArgs sSays) (defBody sSays) (defScope sSays) .none kV4 dc4 pm4 an4 cd4 ct4), sl4⟩)
    (c4 : PySem.W.codeIn K cd4 "_says" = true)
    (k4 : PySem.W.keepIn K (.ref f4) = true)
    (a5 : PySem.W.nsIn K mainGlobals "_fits" = some (some (.ref f5)))
    (l5 : K.lookup f5 = some ⟨oc5, od5, .func (PySem.W.fnOf "_fits" "_fits" (defArgs sFits) (defBody sFits) (defScope sFits) .none kV5 dc5 pm5 an5 cd5 ct5), sl5⟩)
    (c5 : PySem.W.codeIn K cd5 "_fits" = true)
    (k5 : PySem.W.keepIn K (.ref f5) = true)
    (a6 : PySem.W.nsIn K mainGlobals "is_word" = some (some (.ref f6)))
    (l6 : K.lookup f6 = some ⟨oc6, od6, .func (PySem.W.fnOf "is_word" "is_word" (defArgs sIsWord) (defBody sIsWord) (defScope sIsWord) .none kV6 dc6 pm6 an6 cd6 ct6), sl6⟩)
    (c6 : PySem.W.codeIn K cd6 "is_word" = true)
    (k6 : PySem.W.keepIn K (.ref f6) = true)
    (a7 : PySem.W.nsIn K mainGlobals "_law_cell" = some (some (.ref f7)))
    (l7 : K.lookup f7 = some ⟨oc7, od7, .func (PySem.W.fnOf "_law_cell" "_law_cell" (defArgs sCell) (defBody sCell) (defScope sCell) .none kV7 dc7 pm7 an7 cd7 ct7), sl7⟩)
    (c7 : PySem.W.codeIn K cd7 "_law_cell" = true)
    (k7 : PySem.W.keepIn K (.ref f7) = true)
    (a8 : PySem.W.nsIn K mainGlobals "_law_row" = some (some (.ref f8)))
    (l8 : K.lookup f8 = some ⟨oc8, od8, .func (PySem.W.fnOf "_law_row" "_law_row" (defArgs sRow) (defBody sRow) (defScope sRow) .none kV8 dc8 pm8 an8 cd8 ct8), sl8⟩)
    (c8 : PySem.W.codeIn K cd8 "_law_row" = true)
    (k8 : PySem.W.keepIn K (.ref f8) = true)
    (a9 : PySem.W.nsIn K mainGlobals "_law_same" = some (some (.ref f9)))
    (l9 : K.lookup f9 = some ⟨oc9, od9, .func (PySem.W.fnOf "_law_same" "_law_same" (defArgs sSame) (defBody sSame) (defScope sSame) .none kV9 dc9 pm9 an9 cd9 ct9), sl9⟩)
    (c9 : PySem.W.codeIn K cd9 "_law_same" = true)
    (k9 : PySem.W.keepIn K (.ref f9) = true)
    (a10 : PySem.W.nsIn K mainGlobals "_law_letters" = some (some (.ref f10)))
    (l10 : K.lookup f10 = some ⟨oc10, od10, .func (PySem.W.fnOf "_law_letters" "_law_letters" (defArgs sLetters) (defBody sLetters) (defScope sLetters) .none kV10 dc10 pm10 an10 cd10 ct10), sl10⟩)
    (c10 : PySem.W.codeIn K cd10 "_law_letters" = true)
    (k10 : PySem.W.keepIn K (.ref f10) = true)
    (a11 : PySem.W.nsIn K mainGlobals "_law_joint" = some (some (.ref f11)))
    (l11 : K.lookup f11 = some ⟨oc11, od11, .func (PySem.W.fnOf "_law_joint" "_law_joint" (defArgs sJoint) (defBody sJoint) (defScope sJoint) .none kV11 dc11 pm11 an11 cd11 ct11), sl11⟩)
    (c11 : PySem.W.codeIn K cd11 "_law_joint" = true)
    (k11 : PySem.W.keepIn K (.ref f11) = true)
    (a12 : PySem.W.nsIn K mainGlobals "_law_written" = some (some (.ref f12)))
    (l12 : K.lookup f12 = some ⟨oc12, od12, .func (PySem.W.fnOf "_law_written" "_law_written" (defArgs sWritten) (defBody sWritten) (defScope sWritten) .none kV12 dc12 pm12 an12 cd12 ct12), sl12⟩)
    (c12 : PySem.W.codeIn K cd12 "_law_written" = true)
    (k12 : PySem.W.keepIn K (.ref f12) = true)
    (a13 : PySem.W.nsIn K mainGlobals "_law_list" = some (some (.ref f13)))
    (l13 : K.lookup f13 = some ⟨oc13, od13, .func (PySem.W.fnOf "_law_list" "_law_list" (defArgs sList) (defBody sList) (defScope sList) .none kV13 dc13 pm13 an13 cd13 ct13), sl13⟩)
    (c13 : PySem.W.codeIn K cd13 "_law_list" = true)
    (k13 : PySem.W.keepIn K (.ref f13) = true)
    (a14 : PySem.W.nsIn K mainGlobals "_law_says" = some (some (.ref f14)))
    (l14 : K.lookup f14 = some ⟨oc14, od14, .func (PySem.W.fnOf "_law_says" "_law_says" (defArgs sLSays) (defBody sLSays) (defScope sLSays) .none kV14 dc14 pm14 an14 cd14 ct14), sl14⟩)
    (c14 : PySem.W.codeIn K cd14 "_law_says" = true)
    (k14 : PySem.W.keepIn K (.ref f14) = true)
    (a15 : PySem.W.nsIn K mainGlobals "_law_fits" = some (some (.ref f15)))
    (l15 : K.lookup f15 = some ⟨oc15, od15, .func (PySem.W.fnOf "_law_fits" "_law_fits" (defArgs sLFits) (defBody sLFits) (defScope sLFits) .none kV15 dc15 pm15 an15 cd15 ct15), sl15⟩)
    (c15 : PySem.W.codeIn K cd15 "_law_fits" = true)
    (k15 : PySem.W.keepIn K (.ref f15) = true)
    (a16 : PySem.W.nsIn K mainGlobals "_law_is_joint" = some (some (.ref f16)))
    (l16 : K.lookup f16 = some ⟨oc16, od16, .func (PySem.W.fnOf "_law_is_joint" "_law_is_joint" (defArgs sLIsJ) (defBody sLIsJ) (defScope sLIsJ) .none kV16 dc16 pm16 an16 cd16 ct16), sl16⟩)
    (c16 : PySem.W.codeIn K cd16 "_law_is_joint" = true)
    (k16 : PySem.W.keepIn K (.ref f16) = true)
    (a17 : PySem.W.nsIn K mainGlobals "_law_word" = some (some (.ref f17)))
    (l17 : K.lookup f17 = some ⟨oc17, od17, .func (PySem.W.fnOf "_law_word" "_law_word" (defArgs sWord) (defBody sWord) (defScope sWord) .none kV17 dc17 pm17 an17 cd17 ct17), sl17⟩)
    (c17 : PySem.W.codeIn K cd17 "_law_word" = true)
    (k17 : PySem.W.keepIn K (.ref f17) = true)
    (a18 : PySem.W.nsIn K mainGlobals "_law_token" = some (some (.ref f18)))
    (l18 : K.lookup f18 = some ⟨oc18, od18, .func (PySem.W.fnOf "_law_token" "_law_token" (defArgs sToken) (defBody sToken) (defScope sToken) .none kV18 dc18 pm18 an18 cd18 ct18), sl18⟩)
    (c18 : PySem.W.codeIn K cd18 "_law_token" = true)
    (k18 : PySem.W.keepIn K (.ref f18) = true)
    (a19 : PySem.W.nsIn K mainGlobals "_law_is_word" = some (some (.ref f19)))
    (l19 : K.lookup f19 = some ⟨oc19, od19, .func (PySem.W.fnOf "_law_is_word" "_law_is_word" (defArgs sLIsWord) (defBody sLIsWord) (defScope sLIsWord) .none kV19 dc19 pm19 an19 cd19 ct19), sl19⟩)
    (c19 : PySem.W.codeIn K cd19 "_law_is_word" = true)
    (k19 : PySem.W.keepIn K (.ref f19) = true)
    (a20 : PySem.W.nsIn K mainGlobals "_law_cuts" = some (some (.ref f20)))
    (l20 : K.lookup f20 = some ⟨oc20, od20, .func (PySem.W.fnOf "_law_cuts" "_law_cuts" (defArgs sCuts) (defBody sCuts) (defScope sCuts) .none kV20 dc20 pm20 an20 cd20 ct20), sl20⟩)
    (c20 : PySem.W.codeIn K cd20 "_law_cuts" = true)
    (k20 : PySem.W.keepIn K (.ref f20) = true)
    (a21 : PySem.W.nsIn K mainGlobals "_law_syllables" = some (some (.ref f21)))
    (l21 : K.lookup f21 = some ⟨oc21, od21, .func (PySem.W.fnOf "_law_syllables" "_law_syllables" (defArgs sSyl) (defBody sSyl) (defScope sSyl) .none kV21 dc21 pm21 an21 cd21 ct21), sl21⟩)
    (c21 : PySem.W.codeIn K cd21 "_law_syllables" = true)
    (k21 : PySem.W.keepIn K (.ref f21) = true)
    (a22 : PySem.W.nsIn K mainGlobals "law" = some (some (.ref f22)))
    (l22 : K.lookup f22 = some ⟨oc22, od22, .func (PySem.W.fnOf "law" "law" (defArgs sLaw) (defBody sLaw) (defScope sLaw) .none kV22 dc22 pm22 an22 cd22 ct22), sl22⟩)
    (c22 : PySem.W.codeIn K cd22 "law" = true)
    (k22 : PySem.W.keepIn K (.ref f22) = true)
    (a23 : PySem.W.findIn K (.ref C) "__init__" = some (some (.ref f23)))
    (i23 : PySem.W.isFn K (.ref f23) = true)
    (l23 : K.lookup f23 = some ⟨oc23, od23, .func (PySem.W.fnOf "__init__" "Joints.__init__" (defArgs sInit) (defBody sInit) (defScope sInit) .none kV23 dc23 pm23 an23 cd23 ct23), sl23⟩)
    (c23 : PySem.W.codeIn K cd23 "Joints.__init__" = true)
    (k23 : PySem.W.keepIn K (.ref f23) = true)
    (a24 : PySem.W.findIn K (.ref C) "__len__" = some (some (.ref f24)))
    (i24 : PySem.W.isFn K (.ref f24) = true)
    (x24 : PySem.W.typeIn K (.ref f24) = some (.type "function"))
    (l24 : K.lookup f24 = some ⟨oc24, od24, .func (PySem.W.fnOf "__len__" "Joints.__len__" (defArgs sLen) (defBody sLen) (defScope sLen) .none kV24 dc24 pm24 an24 cd24 ct24), sl24⟩)
    (c24 : PySem.W.codeIn K cd24 "Joints.__len__" = true)
    (k24 : PySem.W.keepIn K (.ref f24) = true)
    (a25 : PySem.W.findIn K (.ref C) "__iter__" = some (some (.ref f25)))
    (i25 : PySem.W.isFn K (.ref f25) = true)
    (l25 : K.lookup f25 = some ⟨oc25, od25, .func (PySem.W.fnOf "__iter__" "Joints.__iter__" (defArgs sIter) (defBody sIter) (defScope sIter) .none kV25 dc25 pm25 an25 cd25 ct25), sl25⟩)
    (c25 : PySem.W.codeIn K cd25 "Joints.__iter__" = true)
    (k25 : PySem.W.keepIn K (.ref f25) = true)
    (a26 : PySem.W.findIn K (.ref C) "decider" = some (some (.ref f26)))
    (i26 : PySem.W.isFn K (.ref f26) = true)
    (l26 : K.lookup f26 = some ⟨oc26, od26, .func (PySem.W.fnOf "decider" "Joints.decider" (defArgs sDec) (defBody sDec) (defScope sDec) .none kV26 dc26 pm26 an26 cd26 ct26), sl26⟩)
    (c26 : PySem.W.codeIn K cd26 "Joints.decider" = true)
    (k26 : PySem.W.keepIn K (.ref f26) = true)
    (a27 : PySem.W.findIn K (.ref C) "is_joint" = some (some (.ref f27)))
    (i27 : PySem.W.isFn K (.ref f27) = true)
    (l27 : K.lookup f27 = some ⟨oc27, od27, .func (PySem.W.fnOf "is_joint" "Joints.is_joint" (defArgs sIsJ) (defBody sIsJ) (defScope sIsJ) .none kV27 dc27 pm27 an27 cd27 ct27), sl27⟩)
    (c27 : PySem.W.codeIn K cd27 "Joints.is_joint" = true)
    (k27 : PySem.W.keepIn K (.ref f27) = true)
    (a28 : PySem.W.findIn K (.ref C) "gaps" = some (some (.ref f28)))
    (i28 : PySem.W.isFn K (.ref f28) = true)
    (l28 : K.lookup f28 = some ⟨oc28, od28, .func (PySem.W.fnOf "gaps" "Joints.gaps" (defArgs sGaps) (defBody sGaps) (defScope sGaps) .none kV28 dc28 pm28 an28 cd28 ct28), sl28⟩)
    (c28 : PySem.W.codeIn K cd28 "Joints.gaps" = true)
    (k28 : PySem.W.keepIn K (.ref f28) = true)
    (a29 : PySem.W.findIn K (.ref C) "__call__" = some (some (.ref f29)))
    (i29 : PySem.W.isFn K (.ref f29) = true)
    (x29 : PySem.W.fnIn K f29 = true)
    (l29 : K.lookup f29 = some ⟨oc29, od29, .func (PySem.W.fnOf "__call__" "Joints.__call__" (defArgs sCall) (defBody sCall) (defScope sCall) .none kV29 dc29 pm29 an29 cd29 ct29), sl29⟩)
    (c29 : PySem.W.codeIn K cd29 "Joints.__call__" = true)
    (k29 : PySem.W.keepIn K (.ref f29) = true)
    (z0 : PySem.W.nsIn K mainGlobals "len" = some none)
    (z1 : PySem.W.nsIn K mainGlobals "int" = some none)
    (z2 : PySem.W.nsIn K mainGlobals "str" = some none)
    (z3 : PySem.W.nsIn K mainGlobals "bool" = some none)
    (z4 : PySem.W.nsIn K mainGlobals "tuple" = some none)
    (z5 : PySem.W.nsIn K mainGlobals "list" = some none)
    (z6 : PySem.W.nsIn K mainGlobals "range" = some none)
    (z7 : PySem.W.nsIn K mainGlobals "isinstance" = some none)
    (z8 : PySem.W.nsIn K mainGlobals "sorted" = some none)
    (z9 : PySem.W.nsIn K mainGlobals "enumerate" = some none)
    (z10 : PySem.W.nsIn K mainGlobals "zip" = some none)
    (z11 : PySem.W.nsIn K mainGlobals "all" = some none)
    (z12 : PySem.W.nsIn K mainGlobals "iter" = some none) :
    ∃ fd : FuncData, (∀ (s : Shared) (v : Value), BindsTo s fd ⟨[v], []⟩ [("_law_script", v)]) ∧ ∀ base : Heap, K.In base → base.Ns mainGlobals mg → FnOk l.prog w K mg base CX0 8 fa fd ["_law_script"] (spLaw K) := by
  have e := hfa.symm.trans (PySem.W.mg_of X G a22); cases e
  have B : Blt mg := ⟨PySem.W.mg_none_of X G z0, PySem.W.mg_none_of X G z1, PySem.W.mg_none_of X G z2, PySem.W.mg_none_of X G z3, PySem.W.mg_none_of X G z4, PySem.W.mg_none_of X G z5, PySem.W.mg_none_of X G z6, PySem.W.mg_none_of X G z7, PySem.W.mg_none_of X G z8, PySem.W.mg_none_of X G z9, PySem.W.mg_none_of X G z10, PySem.W.mg_none_of X G z11, PySem.W.mg_none_of X G z12⟩
  have Z : Cst mg tk0 tk1 tk2 tk3 tk4 := ⟨PySem.W.mg_of X G c_MOST_JOINT_ROWS, PySem.W.mg_of X G c_LONGEST_PART, PySem.W.mg_of X G c_ANY_LETTER, PySem.W.mg_of X G c_WORD_END, PySem.W.mg_of X G c_FORBIDS⟩
  have T : Txt K mg C := ⟨⟨pgC, hdC, poC, saC⟩, nC_lines, nC_rows, PySem.W.mg_of X G aC⟩
  have F1 := fun_mk (st := sLetter) l1 c1 k1
  have F2 := fun_mk (st := sPart) l2 c2 k2
  have F3 := fun_mk (st := sRead) l3 c3 k3
  have F4 := fun_mk (st := sSays) l4 c4 k4
  have F5 := fun_mk (st := sFits) l5 c5 k5
  have F6 := fun_mk (st := sIsWord) l6 c6 k6
  have F7 := fun_mk (st := sCell) l7 c7 k7
  have F8 := fun_mk (st := sRow) l8 c8 k8
  have F9 := fun_mk (st := sSame) l9 c9 k9
  have F10 := fun_mk (st := sLetters) l10 c10 k10
  have F11 := fun_mk (st := sJoint) l11 c11 k11
  have F12 := fun_mk (st := sWritten) l12 c12 k12
  have F13 := fun_mk (st := sList) l13 c13 k13
  have F14 := fun_mk (st := sLSays) l14 c14 k14
  have F15 := fun_mk (st := sLFits) l15 c15 k15
  have F16 := fun_mk (st := sLIsJ) l16 c16 k16
  have F17 := fun_mk (st := sWord) l17 c17 k17
  have F18 := fun_mk (st := sToken) l18 c18 k18
  have F19 := fun_mk (st := sLIsWord) l19 c19 k19
  have F20 := fun_mk (st := sCuts) l20 c20 k20
  have F21 := fun_mk (st := sSyl) l21 c21 k21
  have F22 := fun_mk (st := sLaw) l22 c22 k22
  have F23 := fun_mk (st := sInit) l23 c23 k23
  have F24 := fun_mk (st := sLen) l24 c24 k24
  have F25 := fun_mk (st := sIter) l25 c25 k25
  have F26 := fun_mk (st := sDec) l26 c26 k26
  have F27 := fun_mk (st := sIsJ) l27 c27 k27
  have F28 := fun_mk (st := sGaps) l28 c28 k28
  have F29 := fun_mk (st := sCall) l29 c29 k29
  have b1 := F1.binds (ps := ["char"]) fun _ _ _ _ _ _ us hl => match us, hl with | [_], _ => rfl
  have b2 := F2.binds (ps := ["text", "end"]) fun _ _ _ _ _ _ us hl => match us, hl with | [_, _], _ => rfl
  have b3 := F3.binds (ps := ["line"]) fun _ _ _ _ _ _ us hl => match us, hl with | [_], _ => rfl
  have b4 := F4.binds (ps := ["part", "text"]) fun _ _ _ _ _ _ us hl => match us, hl with | [_, _], _ => rfl
  have b5 := F5.binds (ps := ["row", "word", "gap"]) fun _ _ _ _ _ _ us hl => match us, hl with | [_, _, _], _ => rfl
  have b6 := F6.binds (ps := ["text"]) fun _ _ _ _ _ _ us hl => match us, hl with | [_], _ => rfl
  have b7 := F7.binds (ps := ["_law_script", "_law_k"]) fun _ _ _ _ _ _ us hl => match us, hl with | [_, _], _ => rfl
  have b8 := F8.binds (ps := ["_law_cell_here", "_law_limits"]) fun _ _ _ _ _ _ us hl => match us, hl with | [_, _], _ => rfl
  have b9 := F9.binds (ps := ["_law_one", "_law_two"]) fun _ _ _ _ _ _ us hl => match us, hl with | [_, _], _ => rfl
  have b10 := F10.binds (ps := ["_law_cell_here"]) fun _ _ _ _ _ _ us hl => match us, hl with | [_], _ => rfl
  have b11 := F11.binds (ps := ["_law_cell_here", "_law_letters_here", "_law_share"]) fun _ _ _ _ _ _ us hl => match us, hl with | [_, _, _], _ => rfl
  have b12 := F12.binds (ps := ["_law_row_here"]) fun _ _ _ _ _ _ us hl => match us, hl with | [_], _ => rfl
  have b13 := F13.binds (ps := ["_law_script", "_law_at", "_law_letters_here"]) fun _ _ _ _ _ _ us hl => match us, hl with | [_, _, _], _ => rfl
  have b14 := F14.binds (ps := ["_law_part", "_law_text"]) fun _ _ _ _ _ _ us hl => match us, hl with | [_, _], _ => rfl
  have b15 := F15.binds (ps := ["_law_row_here", "_law_word_here", "_law_gap"]) fun _ _ _ _ _ _ us hl => match us, hl with | [_, _, _], _ => rfl
  have b16 := F16.binds (ps := ["_law_rows", "_law_word_here", "_law_gap"]) fun _ _ _ _ _ _ us hl => match us, hl with | [_, _, _], _ => rfl
  have b17 := F17.binds (ps := ["_law_cell_here", "_law_letters_here"]) fun _ _ _ _ _ _ us hl => match us, hl with | [_, _], _ => rfl
  have b18 := F18.binds (ps := ["_law_script", "_law_k", "_law_letters_here"]) fun _ _ _ _ _ _ us hl => match us, hl with | [_, _, _], _ => rfl
  have b19 := F19.binds (ps := ["_law_token_here"]) fun _ _ _ _ _ _ us hl => match us, hl with | [_], _ => rfl
  have b20 := F20.binds (ps := ["_law_rows", "_law_token_here"]) fun _ _ _ _ _ _ us hl => match us, hl with | [_, _], _ => rfl
  have b21 := F21.binds (ps := ["_law_cuts_here", "_law_token_here"]) fun _ _ _ _ _ _ us hl => match us, hl with | [_, _], _ => rfl
  have b23 := F23.binds (ps := ["self", "lines"]) fun _ _ _ _ _ _ us hl => match us, hl with | [_, _], _ => rfl
  have b24 := F24.binds (ps := ["self"]) fun _ _ _ _ _ _ us hl => match us, hl with | [_], _ => rfl
  have b25 := F25.binds (ps := ["self"]) fun _ _ _ _ _ _ us hl => match us, hl with | [_], _ => rfl
  have b26 := F26.binds (ps := ["self", "word", "gap"]) fun _ _ _ _ _ _ us hl => match us, hl with | [_, _, _], _ => rfl
  have b27 := F27.binds (ps := ["self", "word", "gap"]) fun _ _ _ _ _ _ us hl => match us, hl with | [_, _, _], _ => rfl
  have b28 := F28.binds (ps := ["self", "word"]) fun _ _ _ _ _ _ us hl => match us, hl with | [_, _], _ => rfl
  have b29 := F29.binds (ps := ["self", "token"]) fun _ _ _ _ _ _ us hl => match us, hl with | [_, _], _ => rfl
  exact ⟨PySem.W.fnOf "law" "law" (defArgs sLaw) (defBody sLaw) (defScope sLaw) .none kV22 dc22 pm22 an22 cd22 ct22, fun s v => .of_eq rfl, fun base _ _ =>
    ok_law B Z T ⟨mkC, a23, i23, kcC⟩ F22 F23 b23 F24 b24 ⟨a24, x24⟩ F25 b25 ⟨a25, i25⟩ F26 b26 ⟨a26, i26, k26⟩ F27 b27 ⟨a27, i27, k27⟩ F28 b28 ⟨a28, i28, k28⟩ F29 b29 ⟨a29, i29, x29⟩ F1 b1 (PySem.W.mg_of X G a1) F2 b2 (PySem.W.mg_of X G a2) F3 b3 (PySem.W.mg_of X G a3) F4 b4 (PySem.W.mg_of X G a4) F5 b5 (PySem.W.mg_of X G a5) F6 b6 (PySem.W.mg_of X G a6) F7 b7 (PySem.W.mg_of X G a7) F8 b8 (PySem.W.mg_of X G a8) F9 b9 (PySem.W.mg_of X G a9) F10 b10 (PySem.W.mg_of X G a10) F11 b11 (PySem.W.mg_of X G a11) F12 b12 (PySem.W.mg_of X G a12) F13 b13 (PySem.W.mg_of X G a13) F14 b14 (PySem.W.mg_of X G a14) F15 b15 (PySem.W.mg_of X G a15) F16 b16 (PySem.W.mg_of X G a16) F17 b17 (PySem.W.mg_of X G a17) F18 b18 (PySem.W.mg_of X G a18) F19 b19 (PySem.W.mg_of X G a19) F20 b20 (PySem.W.mg_of X G a20) F21 b21 (PySem.W.mg_of X G a21)⟩
end K29
open PySem PySem.W PyProof.Rows
set_option maxRecDepth 100000 in
set_option maxHeartbeats 0 in
theorem PySem.Challenge.cw_laidforall_k29_syllables_of_tokens_holds : PySem.Challenge.rw_laidforall_k29_syllables_of_tokens.Holds := by
  w_on; o_law; k_head; (case hw => w_witness2)
  k_fill
  refine L2.walk_of (l := PySem.Challenge.rw_laidforall_k29_syllables_of_tokens) (n := 63) (k := 8) (x := "_law_script") (CX := fun _ => L2.CX0) (sp := fun w => K29.spLaw _) rfl (by decide) rfl ⟨rfl, by decide, by decide⟩ (fun w h Y => PySem.W.kIn_of Y) ?F (fun _ _ a ns hl _ hS => ⟨a, ns, rfl, hS, hl, fun _ => rfl⟩) (fun _ _ _ _ _ h => h)
  case F =>
    intro w mg fa h KX G hmg
    refine' K29.all_mk KX G hmg ?zz_c_MOST_JOINT_ROWS ?zz_c_LONGEST_PART ?zz_c_ANY_LETTER ?zz_c_WORD_END ?zz_c_FORBIDS ?zz_aC ?zz_pgC ?zz_hdC ?zz_poC ?zz_saC ?zz_mkC ?zz_kcC ?zz_nC_lines ?zz_nC_rows ?zz_a1 ?zz_l1 ?zz_c1 ?zz_k1 ?zz_a2 ?zz_l2 ?zz_c2 ?zz_k2 ?zz_a3 ?zz_l3 ?zz_c3 ?zz_k3 ?zz_a4 ?zz_l4 ?zz_c4 ?zz_k4 ?zz_a5 ?zz_l5 ?zz_c5 ?zz_k5 ?zz_a6 ?zz_l6 ?zz_c6 ?zz_k6 ?zz_a7 ?zz_l7 ?zz_c7 ?zz_k7 ?zz_a8 ?zz_l8 ?zz_c8 ?zz_k8 ?zz_a9 ?zz_l9 ?zz_c9 ?zz_k9 ?zz_a10 ?zz_l10 ?zz_c10 ?zz_k10 ?zz_a11 ?zz_l11 ?zz_c11 ?zz_k11 ?zz_a12 ?zz_l12 ?zz_c12 ?zz_k12 ?zz_a13 ?zz_l13 ?zz_c13 ?zz_k13 ?zz_a14 ?zz_l14 ?zz_c14 ?zz_k14 ?zz_a15 ?zz_l15 ?zz_c15 ?zz_k15 ?zz_a16 ?zz_l16 ?zz_c16 ?zz_k16 ?zz_a17 ?zz_l17 ?zz_c17 ?zz_k17 ?zz_a18 ?zz_l18 ?zz_c18 ?zz_k18 ?zz_a19 ?zz_l19 ?zz_c19 ?zz_k19 ?zz_a20 ?zz_l20 ?zz_c20 ?zz_k20 ?zz_a21 ?zz_l21 ?zz_c21 ?zz_k21 ?zz_a22 ?zz_l22 ?zz_c22 ?zz_k22 ?zz_a23 ?zz_i23 ?zz_l23 ?zz_c23 ?zz_k23 ?zz_a24 ?zz_i24 ?zz_x24 ?zz_l24 ?zz_c24 ?zz_k24 ?zz_a25 ?zz_i25 ?zz_l25 ?zz_c25 ?zz_k25 ?zz_a26 ?zz_i26 ?zz_l26 ?zz_c26 ?zz_k26 ?zz_a27 ?zz_i27 ?zz_l27 ?zz_c27 ?zz_k27 ?zz_a28 ?zz_i28 ?zz_l28 ?zz_c28 ?zz_k28 ?zz_a29 ?zz_i29 ?zz_x29 ?zz_l29 ?zz_c29 ?zz_k29 ?zz_z0 ?zz_z1 ?zz_z2 ?zz_z3 ?zz_z4 ?zz_z5 ?zz_z6 ?zz_z7 ?zz_z8 ?zz_z9 ?zz_z10 ?zz_z11 ?zz_z12
    (case zz_c_MOST_JOINT_ROWS => first | k_is | rfl)
    (case zz_c_LONGEST_PART => first | k_is | rfl)
    (case zz_c_ANY_LETTER => first | k_is | rfl)
    (case zz_c_WORD_END => first | k_is | rfl)
    (case zz_c_FORBIDS => first | k_is | rfl)
    (case zz_aC => first | k_is | rfl)
    (case zz_pgC => first | k_is | rfl)
    (case zz_hdC => first | k_is | rfl)
    (case zz_poC => first | k_is | rfl)
    (case zz_saC => first | k_is | rfl)
    (case zz_mkC => first | k_is | rfl)
    (case zz_kcC => first | k_is | rfl)
    (case zz_nC_lines => first | k_is | rfl)
    (case zz_nC_rows => first | k_is | rfl)
    (case zz_a1 => first | k_is | rfl)
    (case zz_l1 => first | k_is | rfl)
    (case zz_c1 => first | k_is | rfl)
    (case zz_k1 => first | k_is | rfl)
    (case zz_a2 => first | k_is | rfl)
    (case zz_l2 => first | k_is | rfl)
    (case zz_c2 => first | k_is | rfl)
    (case zz_k2 => first | k_is | rfl)
    (case zz_a3 => first | k_is | rfl)
    (case zz_l3 => first | k_is | rfl)
    (case zz_c3 => first | k_is | rfl)
    (case zz_k3 => first | k_is | rfl)
    (case zz_a4 => first | k_is | rfl)
    (case zz_l4 => first | k_is | rfl)
    (case zz_c4 => first | k_is | rfl)
    (case zz_k4 => first | k_is | rfl)
    (case zz_a5 => first | k_is | rfl)
    (case zz_l5 => first | k_is | rfl)
    (case zz_c5 => first | k_is | rfl)
    (case zz_k5 => first | k_is | rfl)
    (case zz_a6 => first | k_is | rfl)
    (case zz_l6 => first | k_is | rfl)
    (case zz_c6 => first | k_is | rfl)
    (case zz_k6 => first | k_is | rfl)
    (case zz_a7 => first | k_is | rfl)
    (case zz_l7 => first | k_is | rfl)
    (case zz_c7 => first | k_is | rfl)
    (case zz_k7 => first | k_is | rfl)
    (case zz_a8 => first | k_is | rfl)
    (case zz_l8 => first | k_is | rfl)
    (case zz_c8 => first | k_is | rfl)
    (case zz_k8 => first | k_is | rfl)
    (case zz_a9 => first | k_is | rfl)
    (case zz_l9 => first | k_is | rfl)
    (case zz_c9 => first | k_is | rfl)
    (case zz_k9 => first | k_is | rfl)
    (case zz_a10 => first | k_is | rfl)
    (case zz_l10 => first | k_is | rfl)
    (case zz_c10 => first | k_is | rfl)
    (case zz_k10 => first | k_is | rfl)
    (case zz_a11 => first | k_is | rfl)
    (case zz_l11 => first | k_is | rfl)
    (case zz_c11 => first | k_is | rfl)
    (case zz_k11 => first | k_is | rfl)
    (case zz_a12 => first | k_is | rfl)
    (case zz_l12 => first | k_is | rfl)
    (case zz_c12 => first | k_is | rfl)
    (case zz_k12 => first | k_is | rfl)
    (case zz_a13 => first | k_is | rfl)
    (case zz_l13 => first | k_is | rfl)
    (case zz_c13 => first | k_is | rfl)
    (case zz_k13 => first | k_is | rfl)
    (case zz_a14 => first | k_is | rfl)
    (case zz_l14 => first | k_is | rfl)
    (case zz_c14 => first | k_is | rfl)
    (case zz_k14 => first | k_is | rfl)
    (case zz_a15 => first | k_is | rfl)
    (case zz_l15 => first | k_is | rfl)
    (case zz_c15 => first | k_is | rfl)
    (case zz_k15 => first | k_is | rfl)
    (case zz_a16 => first | k_is | rfl)
    (case zz_l16 => first | k_is | rfl)
    (case zz_c16 => first | k_is | rfl)
    (case zz_k16 => first | k_is | rfl)
    (case zz_a17 => first | k_is | rfl)
    (case zz_l17 => first | k_is | rfl)
    (case zz_c17 => first | k_is | rfl)
    (case zz_k17 => first | k_is | rfl)
    (case zz_a18 => first | k_is | rfl)
    (case zz_l18 => first | k_is | rfl)
    (case zz_c18 => first | k_is | rfl)
    (case zz_k18 => first | k_is | rfl)
    (case zz_a19 => first | k_is | rfl)
    (case zz_l19 => first | k_is | rfl)
    (case zz_c19 => first | k_is | rfl)
    (case zz_k19 => first | k_is | rfl)
    (case zz_a20 => first | k_is | rfl)
    (case zz_l20 => first | k_is | rfl)
    (case zz_c20 => first | k_is | rfl)
    (case zz_k20 => first | k_is | rfl)
    (case zz_a21 => first | k_is | rfl)
    (case zz_l21 => first | k_is | rfl)
    (case zz_c21 => first | k_is | rfl)
    (case zz_k21 => first | k_is | rfl)
    (case zz_a22 => first | k_is | rfl)
    (case zz_l22 => first | k_is | rfl)
    (case zz_c22 => first | k_is | rfl)
    (case zz_k22 => first | k_is | rfl)
    (case zz_a23 => first | k_is | rfl)
    (case zz_i23 => first | k_is | rfl)
    (case zz_l23 => first | k_is | rfl)
    (case zz_c23 => first | k_is | rfl)
    (case zz_k23 => first | k_is | rfl)
    (case zz_a24 => first | k_is | rfl)
    (case zz_i24 => first | k_is | rfl)
    (case zz_x24 => first | k_is | rfl)
    (case zz_l24 => first | k_is | rfl)
    (case zz_c24 => first | k_is | rfl)
    (case zz_k24 => first | k_is | rfl)
    (case zz_a25 => first | k_is | rfl)
    (case zz_i25 => first | k_is | rfl)
    (case zz_l25 => first | k_is | rfl)
    (case zz_c25 => first | k_is | rfl)
    (case zz_k25 => first | k_is | rfl)
    (case zz_a26 => first | k_is | rfl)
    (case zz_i26 => first | k_is | rfl)
    (case zz_l26 => first | k_is | rfl)
    (case zz_c26 => first | k_is | rfl)
    (case zz_k26 => first | k_is | rfl)
    (case zz_a27 => first | k_is | rfl)
    (case zz_i27 => first | k_is | rfl)
    (case zz_l27 => first | k_is | rfl)
    (case zz_c27 => first | k_is | rfl)
    (case zz_k27 => first | k_is | rfl)
    (case zz_a28 => first | k_is | rfl)
    (case zz_i28 => first | k_is | rfl)
    (case zz_l28 => first | k_is | rfl)
    (case zz_c28 => first | k_is | rfl)
    (case zz_k28 => first | k_is | rfl)
    (case zz_a29 => first | k_is | rfl)
    (case zz_i29 => first | k_is | rfl)
    (case zz_x29 => first | k_is | rfl)
    (case zz_l29 => first | k_is | rfl)
    (case zz_c29 => first | k_is | rfl)
    (case zz_k29 => first | k_is | rfl)
    (case zz_z0 => first | k_is | rfl)
    (case zz_z1 => first | k_is | rfl)
    (case zz_z2 => first | k_is | rfl)
    (case zz_z3 => first | k_is | rfl)
    (case zz_z4 => first | k_is | rfl)
    (case zz_z5 => first | k_is | rfl)
    (case zz_z6 => first | k_is | rfl)
    (case zz_z7 => first | k_is | rfl)
    (case zz_z8 => first | k_is | rfl)
    (case zz_z9 => first | k_is | rfl)
    (case zz_z10 => first | k_is | rfl)
    (case zz_z11 => first | k_is | rfl)
    (case zz_z12 => first | k_is | rfl)

