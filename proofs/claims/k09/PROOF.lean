import PyProof.Rows.All
import Wide.All
import OpenK.AllK
import Wide.FinOn
import KE.KIsAll
import KE.KTryMore
import HandS.ForMost
import HandS.ForExc
import HandS.ExcInit
import HandS.ExcIs
import HandS.ExcField
import HandS.IsInst
import HandS.TupAny
import HandS.Walk
import HandS.NoneIn
import HandS.Evl
import HandS.Words
import HandS.FStr
import HandS.Text
import HandS.StrMore
import HandS.More
import HandS.Deep
import HandS.Codes
import HandS.Conv
import HandS.Star
import HandS.Wide
import HandS.TryOnly
import PySem.Challenge.RW_laidforall_k09_pattern_matches
set_option Elab.async false
set_option linter.all false
set_option maxRecDepth 100000
set_option maxHeartbeats 4000000
namespace K09
open PySem PySem.Spec PyProof.Rows L2 PySem.W PySem.Calls
/-! ### heaps -/
theorem same_new {H : Hp} {p : Addr} {o : HO} (h : H p = none) : Same H (upd H p o) := fun b x e => by
  rw [upd_ne (ne_of_none e h)]; exact e
theorem same_at {H H' : Hp} {o : Addr} {x : HO} (s : Same H H') (h : H o = none) : Same H (upd H' o x) := fun b z e => by
  rw [upd_ne (ne_of_none e h)]; exact s b z e
theorem same_new2 {H H' : Hp} {p : Addr} {o : HO} (s : Same H H') (h : H' p = none) : Same H (upd H' p o) := fun b z e => by
  have e2 := s b z e
  rw [upd_ne (ne_of_none e2 h)]; exact e2
theorem map_snoc (rs : List Int) (r : Int) : rs.map V.int ++ [V.int r] = (rs ++ [r]).map V.int := by rw [List.map_append]; rfl
theorem map_snocS (rs : List Str) (r : Str) : rs.map V.str ++ [V.str r] = (rs ++ [r]).map V.str := by rw [List.map_append]; rfl
/-! ### texts as lists -/
abbrev tl (z : Str) : List Nat := z.cps.toList
theorem tl_len (z : Str) : (tl z).length = z.length := by simp [tl, Str.length]
theorem str_eq {a b : Str} (h : tl a = tl b) : a = b := by
  obtain ⟨x⟩ := a; obtain ⟨y⟩ := b
  show (⟨x⟩ : Str) = ⟨y⟩
  congr 1
  apply Array.toList_inj.mp; simpa [tl] using h
theorem str_of {z : Str} {x : Nat} (h : tl z = [x]) : z = ⟨#[x]⟩ := str_eq h
theorem str_mk (z : Str) : z = ⟨(tl z).toArray⟩ := str_eq rfl
theorem tl_add (a b : Str) : tl (a ++ b) = tl a ++ tl b := by
  show (a.cps ++ b.cps).toList = _
  rw [Array.toList_append]
theorem len_add (a b : Str) : (a ++ b).length = a.length + b.length := by
  show (a.cps ++ b.cps).size = _
  rw [Array.size_append]; rfl
theorem lt_one (x y : Nat) : decide ([x] < [y]) = !decide (y ≤ x) := by
  have e : decide ([x] < [y]) = decide (x < y) := by simp [List.cons_lt_cons_iff]
  rw [e]
  by_cases h : y ≤ x
  · rw [decide_eq_true h, decide_eq_false (by omega)]; rfl
  · rw [decide_eq_false h, decide_eq_true (by omega)]; rfl
theorem eqS (a b : Nat) : decide (V.str ⟨#[a]⟩ = V.str ⟨#[b]⟩) = decide (a = b) := by
  refine decide_eq_decide.mpr ⟨fun h => ?_, fun h => by rw [h]⟩
  injection h with h1
  have h2 := congrArg tl h1
  simpa [tl] using h2
theorem eqT (a b : Str) : decide (V.str a = V.str b) = decide (tl a = tl b) := by
  refine decide_eq_decide.mpr ⟨fun h => ?_, fun h => by rw [str_eq h]⟩
  injection h with h1
  rw [h1]
theorem eqI (a b : Int) : decide (V.int a = V.int b) = decide (a = b) := by
  refine decide_eq_decide.mpr ⟨fun h => ?_, fun h => by rw [h]⟩
  injection h
theorem cut_tl (z : Str) (a b : Nat) : tl (cutS z (some (a : Int)) (some (b : Int))) = ((tl z).drop (min a z.length)).take (min b z.length - min a z.length) := by
  unfold cutS tl
  rw [HT.sIx_nat, HT.sIx_nat]
theorem cut_to (z : Str) (b : Nat) : tl (cutS z none (some (b : Int))) = (tl z).take b := by
  unfold cutS tl
  rw [HT.sIx_none, HT.sIx_nat]
  show (z.cps.toList.drop 0).take (min b z.length - 0) = _
  rw [List.drop_zero, Nat.sub_zero]
  by_cases h : b ≤ z.length
  · rw [Nat.min_eq_left h]
  · rw [Nat.min_eq_right (by omega), List.take_of_length_le (by rw [tl_len]; exact Nat.le_refl _), List.take_of_length_le (by rw [tl_len]; omega)]
theorem cut_from (z : Str) (a : Nat) : tl (cutS z (some (a : Int)) none) = (tl z).drop a := by
  unfold cutS tl
  rw [HT.sIx_none, HT.sIx_nat]
  show (z.cps.toList.drop (min a z.length)).take (z.length - min a z.length) = _
  by_cases h : a ≤ z.length
  · rw [Nat.min_eq_left h, List.take_of_length_le (by rw [List.length_drop, tl_len]; exact Nat.le_refl _)]
  · rw [Nat.min_eq_right (by omega), Nat.sub_self, List.take_zero, List.drop_of_length_le (by rw [tl_len]; omega)]
theorem joinL_flat : ∀ ls : List (List Nat), TL.joinL [] ls = ls.flatten
  | [] => rfl
  | [p] => by simp [TL.joinL]
  | p :: q :: r => by
    have h := joinL_flat (q :: r)
    simp only [TL.joinL, List.nil_append, h, List.flatten_cons]
theorem tl_joined {e : Str} (he : tl e = []) (ys : List Str) : tl (Txt.join e ys) = (ys.map tl).flatten := by
  have h1 : TL.tl (Txt.join e ys) = TL.joinL (TL.tl e) (ys.map TL.tl) := by rw [TL.join_eq, TL.tl_join]
  have h2 : TL.tl e = [] := he
  rw [h2, joinL_flat] at h1
  exact h1
/-- texts of one sign each, joined -/
theorem join_ones (cs : List Nat) : tl (Txt.join (Str.ofString "") (cs.map fun c => (⟨#[c]⟩ : Str))) = cs := by
  rw [tl_joined (by decide +kernel), List.map_map]
  induction cs with
  | nil => rfl
  | cons c cs ih => simp only [List.map_cons, List.flatten_cons, ih]; rfl
theorem sum_ones (cs : List Nat) : ((cs.map fun c => (⟨#[c]⟩ : Str)).map (·.length)).sum = cs.length := by
  induction cs with
  | nil => rfl
  | cons c cs ih => simp only [List.map_cons, List.sum_cons, ih, List.length_cons]; show 1 + _ = _; omega
/-! ### trees, places -/
inductive T where
  | txt (z : Str)
  | el (k m : Str) (cs : List T)
def kids : T → Option (List T)
  | .txt _ => none
  | .el _ _ cs => some cs
def isTxt : T → Bool
  | .txt _ => true
  | .el .. => false
mutual
def sz : T → Nat
  | .txt _ => 1
  | .el _ _ cs => 1 + szs cs
def szs : List T → Nat
  | [] => 0
  | c :: cs => sz c + szs cs
end
theorem sz_pos : ∀ t : T, 1 ≤ sz t
  | .txt _ => by simp [sz]
  | .el _ _ cs => by simp [sz]
theorem szs_append (as bs : List T) : szs (as ++ bs) = szs as + szs bs := by
  induction as with
  | nil => simp [szs]
  | cons a as ih => simp only [List.cons_append, szs, ih]; omega
theorem szs_len (cs : List T) : cs.length ≤ szs cs := by
  induction cs with
  | nil => simp
  | cons c cs ih => have := sz_pos c; simp only [List.length_cons, szs]; omega
theorem sz_mem {cs : List T} {i : Nat} {c : T} (h : cs[i]? = some c) : sz c ≤ szs cs := by
  induction cs generalizing i with
  | nil => simp at h
  | cons a as ih =>
    cases i with
    | zero => simp at h; subst h; simp only [szs]; omega
    | succ i => have := ih (i := i) (by simpa using h); simp only [szs]; omega
/-- one step -/
def step1 (t : T) (i : Int) : Option T := match kids t with
  | none => none
  | some cs => if 0 ≤ i then cs[i.toNat]? else none
def atP : T → List Int → Option T
  | t, [] => some t
  | t, i :: r => (step1 t i).bind fun u => atP u r
theorem atP_append (t : T) (ns ms : List Int) : atP t (ns ++ ms) = (atP t ns).bind fun u => atP u ms := by
  induction ns generalizing t with
  | nil => simp [atP]
  | cons i r ih =>
    simp only [List.cons_append, atP]
    cases step1 t i with
    | none => simp
    | some u => simp [ih]
theorem atP_snoc (t : T) (ns : List Int) (i : Int) : atP t (ns ++ [i]) = (atP t ns).bind fun u => step1 u i := by
  rw [atP_append]
  cases atP t ns with
  | none => simp
  | some u => simp [atP]
theorem step1_sz {t u : T} {i : Int} (h : step1 t i = some u) : sz u + 1 ≤ sz t := by
  cases t with
  | txt z => simp [step1, kids] at h
  | el k m cs =>
    simp only [step1, kids] at h
    split at h
    · have := sz_mem h; simp only [sz]; omega
    · cases h
theorem atP_sz {t u : T} {ns : List Int} (h : atP t ns = some u) : ns.length + sz u ≤ sz t := by
  induction ns generalizing t with
  | nil => simp [atP] at h; subst h; simp
  | cons i r ih =>
    simp only [atP] at h
    cases e : step1 t i with
    | none => rw [e] at h; cases h
    | some v =>
      rw [e] at h
      have h1 := step1_sz e
      have h2 := ih (t := v) h
      simp only [List.length_cons]; omega
theorem step1_nat {k m : Str} {cs : List T} {i : Nat} : step1 (.el k m cs) (i : Int) = cs[i]? := by
  simp only [step1, kids]
  rw [if_pos (Int.natCast_nonneg i)]; simp
/-- the greatest place below n of a child that is no text -/
def elder (cs : List T) : Nat → Option Nat
  | 0 => none
  | n + 1 => match cs[n]? with
    | some (.el ..) => some n
    | _ => elder cs n
theorem elder_lt {cs : List T} : ∀ {n j : Nat}, elder cs n = some j → j < n
  | 0, j, h => by cases h
  | n + 1, j, h => by
    unfold elder at h
    split at h
    · cases h; omega
    · have := elder_lt (n := n) h; omega
/-! ### in the heap -/
/-- tuples stay -/
def SameT (H H' : Hp) : Prop := ∀ a xs, H a = some (.tup xs) → H' a = some (.tup xs)
theorem SameT.refl (H : Hp) : SameT H H := fun _ _ h => h
theorem SameT.trans {H H1 H2 : Hp} (a : SameT H H1) (b : SameT H1 H2) : SameT H H2 := fun x xs h => b x xs (a x xs h)
theorem SameT.new {H : Hp} {p : Addr} {o : HO} (h : H p = none) : SameT H (upd H p o) := fun a xs e => by
  rw [upd_ne (ne_of_none e h)]; exact e
theorem SameT.lst {H : Hp} {p : Addr} {o : HO} {ys : List V} (h : H p = some (.lst ys)) : SameT H (upd H p o) := fun a xs e => by
  rw [upd_ne (ne_of e h (by intro z; cases z))]; exact e
inductive IsT (H : Hp) : V → T → Prop
  | txt (z : Str) : IsT H (.str z) (.txt z)
  | el {a b : Addr} {k m : Str} {vs : List V} {cs : List T} (h1 : H a = some (.tup [.str k, .str m, .ref b])) (h2 : H b = some (.tup vs)) (hl : vs.length = cs.length)
      (hi : ∀ (i : Nat) (v : V) (c : T), vs[i]? = some v → cs[i]? = some c → IsT H v c) : IsT H (.ref a) (.el k m cs)
theorem IsT.mono {H H' : Hp} (s : SameT H H') {v : V} {t : T} (h : IsT H v t) : IsT H' v t := by
  induction h with
  | txt z => exact .txt z
  | el h1 h2 hl hi ih => exact .el (s _ _ h1) (s _ _ h2) hl ih
def AllT (H : Hp) (vs : List V) (cs : List T) : Prop := vs.length = cs.length ∧ ∀ (i : Nat) (v : V) (c : T), vs[i]? = some v → cs[i]? = some c → IsT H v c
theorem AllT.mono {H H' : Hp} (s : SameT H H') {vs : List V} {cs : List T} (h : AllT H vs cs) : AllT H' vs cs := ⟨h.1, fun i v c a b => (h.2 i v c a b).mono s⟩
theorem AllT.nil {H : Hp} : AllT H [] [] := ⟨rfl, fun i v c a _ => by simp at a⟩
theorem AllT.snoc {H : Hp} {vs : List V} {cs : List T} {v : V} {c : T} (h : AllT H vs cs) (hv : IsT H v c) : AllT H (vs ++ [v]) (cs ++ [c]) := by
  obtain ⟨hl, hi⟩ := h
  refine ⟨by simp [hl], fun i w d a b => ?_⟩
  by_cases hlt : i < vs.length
  · rw [List.getElem?_append_left hlt] at a
    rw [List.getElem?_append_left (by omega)] at b
    exact hi i w d a b
  · rw [List.getElem?_append_right (by omega)] at a
    rw [List.getElem?_append_right (by omega)] at b
    have e : i - vs.length = 0 := by
      have := (List.getElem?_eq_some_iff.mp a).1
      simp at this; omega
    rw [e] at a
    rw [show i - cs.length = 0 by omega] at b
    simp at a b; subst a b; exact hv
theorem AllT.get {H : Hp} {vs : List V} {cs : List T} (h : AllT H vs cs) {i : Nat} {c : T} (hc : cs[i]? = some c) : ∃ v, vs[i]? = some v ∧ IsT H v c := by
  have hlt : i < vs.length := by have := (List.getElem?_eq_some_iff.mp hc).1; have := h.1; omega
  exact ⟨vs[i], by simp [hlt], h.2 i _ c (by simp [hlt]) hc⟩
/-- what stands at an element -/
theorem IsT.el_inv {H : Hp} {v : V} {k m : Str} {cs : List T} (h : IsT H v (.el k m cs)) : ∃ a b vs, v = .ref a ∧ H a = some (.tup [.str k, .str m, .ref b]) ∧ H b = some (.tup vs) ∧ AllT H vs cs := by
  cases h with
  | @el a b _ _ vs _ h1 h2 hl hi => exact ⟨a, b, vs, rfl, h1, h2, hl, hi⟩
theorem IsT.txt_inv {H : Hp} {v : V} {z : Str} (h : IsT H v (.txt z)) : v = .str z := by
  cases h with
  | txt => rfl

/-! the text -/
def topS (i : Nat) : Stmt := PySem.Challenge.pw_laidforall_k09_pattern_matches.main.body.getD i (.Pass ⟨0, 0, 0, 0⟩)
abbrev sInit : Stmt := inClass (topS 3) 0
abbrev sLetter : Stmt := topS 7
abbrev sNameEnd : Stmt := topS 8
abbrev sIsName : Stmt := topS 9
abbrev sNode : Stmt := topS 11
abbrev sElem : Stmt := topS 12
abbrev sElder : Stmt := topS 13
abbrev sTest : Stmt := topS 20
abbrev sTests : Stmt := topS 21
abbrev sPasses : Stmt := topS 22
abbrev sPInit : Stmt := inClass (topS 23) 0
abbrev sPCall : Stmt := inClass (topS 23) 1
abbrev sReach : Stmt := inClass (topS 23) 2
abbrev sLinked : Stmt := topS 24
abbrev sCell : Stmt := topS 26
abbrev sRow : Stmt := topS 27
abbrev sNames : Stmt := topS 28
abbrev sTree : Stmt := topS 29
abbrev sNodes : Stmt := topS 30
abbrev sFits : Stmt := topS 31
abbrev sAimed : Stmt := topS 32
abbrev sFree : Stmt := topS 33
abbrev sWritten : Stmt := topS 34
abbrev sRight : Stmt := topS 35
abbrev sNo : Stmt := topS 36
abbrev sLaw : Stmt := topS 37
structure Blt (mg : Str → Option Value) : Prop where
  len : mg "len" = none
  int : mg "int" = none
  str : mg "str" = none
  bool : mg "bool" = none
  tuple : mg "tuple" = none
  list : mg "list" = none
  max : mg "max" = none
  range : mg "range" = none
  isi : mg "isinstance" = none
  ve : mg "ValueError" = none
structure Cst (mg : Str → Option Value) (t1 t2 t3 t4 t5 t6 : Tok) : Prop where
  g_LONGEST_NAME : mg "LONGEST_NAME" = some (.int 8 t1)
  g_MOST_TESTS : mg "MOST_TESTS" = some (.int 4 t2)
  g_ANY_KIND : mg "ANY_KIND" = some (.str (Str.ofString "*") t3)
  g_INSIDE : mg "INSIDE" = some (.str (Str.ofString "") t4)
  g_CHILD : mg "CHILD" = some (.str (Str.ofString ">") t5)
  g_BEHIND : mg "BEHIND" = some (.str (Str.ofString "+") t6)
theorem passN {X : Cx} : Passes (L2.CX X.prog X.w) X E0 := fun _ _ _ _ _ _ _ h => by
  unfold L2.CX at h
  obtain ⟨a, B, H', cls, d, h1, h2, h3, h4, h⟩ := h
  simp only [E0, and_false] at h
/-! ### patterns -/
def isL (x : Nat) : Bool := decide (97 ≤ x) && decide (x ≤ 122)
def Name (z : Str) : Prop := 1 ≤ (tl z).length ∧ (tl z).length ≤ 8 ∧ ∀ c ∈ tl z, isL c = true
def Mark (z : Str) : Prop := tl z = [] ∨ Name z
abbrev Tst := Str × Str
def starS : Str := Str.ofString "*"
theorem tl_star : tl starS = [42] := by decide +kernel
def GoodT (x : Tst) : Prop := (x.1 = starS ∨ Name x.1) ∧ Mark x.2
def dotS : Str := Str.ofString "."
theorem tl_dot : tl dotS = [46] := by decide +kernel
/-- a test as it is written -/
def wordL (x : Tst) : List Nat := tl x.1 ++ (if tl x.2 = [] then [] else 46 :: tl x.2)
inductive Tk where
  | lnk (l : Nat)
  | tst (x : Tst)
def symL (l : Nat) : List Nat := if l = 1 then [62] else [43]
def encT : Tk → List Nat
  | .lnk l => symL l
  | .tst x => wordL x
abbrev Ps := List Tst × List Nat × Nat
def stp : Ps → Tk → Ps
  | (ts, ls, _), .lnk l => (ts, ls, l)
  | (ts, ls, p), .tst x => (ts ++ [x], if ts = [] then ls else ls ++ [p], 0)
def okTk : Ps → List Tk → Prop
  | _, [] => True
  | s, .lnk l :: r => s.1 ≠ [] ∧ s.2.2 = 0 ∧ (l = 1 ∨ l = 2) ∧ okTk (stp s (.lnk l)) r
  | s, .tst x :: r => GoodT x ∧ okTk (stp s (.tst x)) r
def tail (rs : List (Nat × Tst)) : List Tk := rs.flatMap fun r => if r.1 = 0 then [.tst r.2] else [.lnk r.1, .tst r.2]
def toks (x : Tst) (rs : List (Nat × Tst)) : List Tk := .tst x :: tail rs
theorem stp_tst {ts : List Tst} {ls : List Nat} {p : Nat} {x : Tst} (h : ts ≠ []) : stp (ts, ls, p) (.tst x) = (ts ++ [x], ls ++ [p], 0) := by simp [stp, h]
theorem tail_ok : ∀ (rs : List (Nat × Tst)) (ts : List Tst) (ls : List Nat), ts ≠ [] → (∀ r ∈ rs, r.1 ≤ 2 ∧ GoodT r.2) → okTk (ts, ls, 0) (tail rs) ∧ (tail rs).foldl stp (ts, ls, 0) = (ts ++ rs.map (·.2), ls ++ rs.map (·.1), 0)
  | [], ts, ls, _, _ => by simp [tail, okTk]
  | (l, x) :: rs, ts, ls, hne, h => by
    obtain ⟨h1, h2⟩ := h (l, x) List.mem_cons_self
    obtain ⟨i1, i2⟩ := tail_ok rs (ts ++ [x]) (ls ++ [l]) (by simp) fun r hr => h r (List.mem_cons_of_mem _ hr)
    by_cases hl : l = 0
    · subst hl
      have e : tail ((0, x) :: rs) = .tst x :: tail rs := by simp [tail]
      rw [e]
      refine ⟨⟨h2, ?_⟩, ?_⟩
      · show okTk (stp (ts, ls, 0) (.tst x)) (tail rs)
        rw [stp_tst hne]; exact i1
      · show (tail rs).foldl stp (stp (ts, ls, 0) (.tst x)) = _
        rw [stp_tst hne, i2]; simp
    · have e : tail ((l, x) :: rs) = .lnk l :: .tst x :: tail rs := by simp [tail, hl]
      rw [e]
      have h1' : l ≤ 2 := h1
      refine ⟨⟨hne, rfl, by omega, h2, ?_⟩, ?_⟩
      · show okTk (stp (ts, ls, l) (.tst x)) (tail rs)
        rw [stp_tst hne]; exact i1
      · show (tail rs).foldl stp (stp (ts, ls, l) (.tst x)) = _
        rw [stp_tst hne, i2]; simp
theorem toks_ok {x : Tst} {rs : List (Nat × Tst)} (hx : GoodT x) (h : ∀ r ∈ rs, r.1 ≤ 2 ∧ GoodT r.2) : okTk ([], [], 0) (toks x rs) ∧ (toks x rs).foldl stp ([], [], 0) = (x :: rs.map (·.2), rs.map (·.1), 0) := by
  obtain ⟨i1, i2⟩ := tail_ok rs [x] [] (by simp) h
  refine ⟨⟨hx, i1⟩, ?_⟩
  show (tail rs).foldl stp ([] ++ [x], [], 0) = _
  rw [List.nil_append, i2]; simp
/-- the text of a pattern -/
def sepL (l : Nat) : List Nat := if l = 0 then [32] else 32 :: (symL l ++ [32])
def textL (x : Tst) (rs : List (Nat × Tst)) : List Nat := wordL x ++ rs.flatMap fun r => sepL r.1 ++ wordL r.2
theorem joinL_cons (w : List Nat) : ∀ ws : List (List Nat), TL.joinL [32] (w :: ws) = w ++ ws.flatMap (fun v => 32 :: v)
  | [] => by simp [TL.joinL]
  | v :: ws => by
    simp only [TL.joinL, joinL_cons v ws, List.flatMap_cons, List.cons_append, List.nil_append]
theorem join_toks (x : Tst) (rs : List (Nat × Tst)) : TL.joinL [32] ((toks x rs).map encT) = textL x rs := by
  show TL.joinL [32] (wordL x :: (tail rs).map encT) = _
  rw [joinL_cons]
  unfold textL
  congr 1
  induction rs with
  | nil => rfl
  | cons r rs ih =>
    obtain ⟨l, y⟩ := r
    by_cases hl : l = 0
    · subst hl
      have e : tail ((0, y) :: rs) = .tst y :: tail rs := by simp [tail]
      rw [e, List.map_cons, List.flatMap_cons, ih]
      simp [sepL, encT]
    · have e : tail ((l, y) :: rs) = .lnk l :: .tst y :: tail rs := by simp [tail, hl]
      rw [e, List.map_cons, List.map_cons, List.flatMap_cons, List.flatMap_cons, ih]
      simp [sepL, encT, hl]
theorem letter_free {l : List Nat} (h : ∀ c ∈ l, isL c = true) {s : Nat} (hs : s < 97) : s ∉ l := fun hm => by
  have := h s hm
  simp [isL] at this; omega
theorem kind_free {x : Tst} (h : GoodT x) {s : Nat} (hs : s < 97) (h42 : s ≠ 42) : s ∉ tl x.1 := by
  rcases h.1 with h1 | h1
  · rw [h1, tl_star]; simp; exact h42
  · exact letter_free h1.2.2 hs
theorem mark_free {z : Str} (h : Mark z) {s : Nat} (hs : s < 97) : s ∉ tl z := by
  rcases h with h1 | h1
  · rw [h1]; simp
  · exact letter_free h1.2.2 hs
theorem word_free {x : Tst} (h : GoodT x) {s : Nat} (hs : s < 97) (h42 : s ≠ 42) (h46 : s ≠ 46) : s ∉ wordL x := by
  unfold wordL
  intro hm
  rcases List.mem_append.mp hm with h1 | h1
  · exact kind_free h hs h42 h1
  · by_cases he : tl x.2 = []
    · rw [if_pos he] at h1; simp at h1
    · rw [if_neg he] at h1
      rcases List.mem_cons.mp h1 with h2 | h2
      · exact h46 h2
      · exact mark_free h.2 hs h2
theorem kind_len {x : Tst} (h : GoodT x) : 1 ≤ (tl x.1).length ∧ (tl x.1).length ≤ 8 := by
  rcases h.1 with h1 | h1
  · rw [h1, tl_star]; decide
  · exact ⟨h1.1, h1.2.1⟩
theorem mark_len {z : Str} (h : Mark z) : (tl z).length ≤ 8 := by
  rcases h with h1 | h1
  · rw [h1]; decide
  · exact h1.2.1
theorem word_len {x : Tst} (h : GoodT x) : 1 ≤ (wordL x).length ∧ (wordL x).length ≤ 17 := by
  have h1 := kind_len h; have h2 := mark_len h.2
  unfold wordL
  rw [List.length_append]
  by_cases he : tl x.2 = []
  · rw [if_pos he, List.length_nil]; omega
  · rw [if_neg he, List.length_cons]; omega
theorem okTk_mem : ∀ {tk : List Tk} {s : Ps}, okTk s tk → ∀ t ∈ tk, (∃ l, t = .lnk l) ∨ ∃ x, t = .tst x ∧ GoodT x
  | [], _, _, t, h => by simp at h
  | .lnk l :: r, s, h, t, ht => by
    rcases List.mem_cons.mp ht with rfl | h1
    · exact .inl ⟨l, rfl⟩
    · exact okTk_mem h.2.2.2 t h1
  | .tst x :: r, s, h, t, ht => by
    rcases List.mem_cons.mp ht with rfl | h1
    · exact .inr ⟨x, rfl, h.1⟩
    · exact okTk_mem h.2 t h1
theorem enc_free {tk : List Tk} {s : Ps} (h : okTk s tk) : ∀ p ∈ tk.map encT, (32 : Nat) ∉ p := by
  intro p hp
  obtain ⟨t, ht, rfl⟩ := List.mem_map.mp hp
  rcases okTk_mem h t ht with ⟨l, rfl⟩ | ⟨x, rfl, hx⟩
  · show 32 ∉ symL l
    unfold symL; split <;> decide
  · exact word_free hx (by decide) (by decide) (by decide)
theorem enc_len {tk : List Tk} {s : Ps} (h : okTk s tk) : ∀ p ∈ tk.map encT, p.length ≤ 17 := by
  intro p hp
  obtain ⟨t, ht, rfl⟩ := List.mem_map.mp hp
  rcases okTk_mem h t ht with ⟨l, rfl⟩ | ⟨x, rfl, hx⟩
  · show (symL l).length ≤ 17
    unfold symL; split <;> decide
  · exact (word_len hx).2
def blankS : Str := Str.ofString " "
theorem tl_blank : tl blankS = [32] := by decide +kernel
theorem split_toks {z : Str} {tk : List Tk} {s : Ps} (hz : tl z = TL.joinL [32] (tk.map encT)) (hne : tk ≠ []) (h : okTk s tk) : (Txt.split z blankS).map tl = tk.map encT := by
  have h1 := TL.split_spl z blankS (by decide +kernel) (TL.kind_ok (by decide +kernel))
  rw [show TL.tl blankS = [32] from tl_blank, show TL.tl z = TL.joinL [32] (tk.map encT) from hz, TL.spl_join (by simpa using hne) (enc_free h)] at h1
  exact h1
/-- which tests an element passes -/
def passB (x : Tst) (k m : Str) : Bool := (decide (x.1 = starS) || decide (x.1 = k)) && (decide (tl x.2 = []) || decide (x.2 = m))
/-! ### matching, by places -/
/-- the place of the elder -/
def eldP (t : T) (ns : List Int) : Option (List Int) := match ns.getLast? with
  | none => none
  | some i => match atP t ns.dropLast with
    | some (.el _ _ cs) => (elder cs i.toNat).map fun (j : Nat) => ns.dropLast ++ [(j : Int)]
    | _ => none
def linked (t : T) (ns : List Int) (l : Nat) : List (List Int) :=
  if l = 2 then (match eldP t ns with | none => [] | some ms => [ms])
  else if ns = [] then [] else if l = 1 then [ns.dropLast] else (List.range ns.length).map fun n => ns.take n
def hitB (t : T) (ns : List Int) (x : Tst) : Bool := match atP t ns with
  | some (.el k m _) => passB x k m
  | _ => false
/-- whether the tests up to one hold at an element -/
def mt (t : T) (ts : List Tst) (ls : List Nat) : Nat → List Int → Bool
  | 0, ns => match ts[0]? with | some x => hitB t ns x | none => false
  | n + 1, ns => (match ts[n + 1]? with | some x => hitB t ns x | none => false) && (match ls[n]? with | some l => (linked t ns l).any (mt t ts ls n) | none => false)
end K09

set_option maxRecDepth 100000
set_option maxHeartbeats 4000000
namespace K09
open PySem PySem.Spec PyProof.Rows L2
theorem lt_nil (x : Nat) : decide (([] : List Nat) < [x]) = true := by simp
theorem cut_one (z : Str) {A R : List Nat} (h : tl z = A ++ R) : tl (cutS z (some (A.length : Int)) (some ((A.length : Int) + 1))) = R.take 1 := by
  have hl := tl_len z
  rw [h, List.length_append] at hl
  rw [show ((A.length : Int) + 1) = ((A.length + 1 : Nat) : Int) by omega, cut_tl, h, Nat.min_eq_left (show A.length ≤ z.length by omega), List.drop_left]
  cases R with
  | nil => simp
  | cons c r => simp only [List.length_cons] at hl; rw [Nat.min_eq_left (by omega), show A.length + 1 - A.length = 1 by omega]

theorem share {G E : Prop} (hE : E) (h : E → G) : G := h hE
theorem eqE (z : Str) : decide (V.str z = V.str (Str.ofString "")) = decide (tl z = []) := by
  rw [eqT, show tl (Str.ofString "") = [] by decide +kernel]
section
variable {P : Program} {w : World} {K : PySem.W.Frag} {mg : Str → Option Value} {base : Heap} {t1 t2 t3 t4 t5 t6 : Tok}
/-! ### is_letter -/
def spLet (f : Nat → Bool) : Sp := fun vs H Q _ => ∃ (c : Str), vs = [.str c] ∧ ((tl c = [] ∧ Q (.bl false) H) ∨ ∃ x, tl c = [x] ∧ Q (.bl (f x)) H)
theorem scLetter : FnScope ["char"] ["char"] (defScope sLetter) := ⟨rfl, rfl, rfl, by decide +kernel, rfl, by decide +kernel, by decide +kernel⟩
theorem ok_letter {f : Addr} {fd : FuncData} (F : Fun K "is_letter" "is_letter" sLetter f fd) : FnOk P w K mg base CX0 1 f fd ["char"] (spLet isL) := by
  refine F.ok scLetter (fun vs H Q E h => ?_) (fun cdv A outer s H vs Q E hr h => ?_)
  · obtain ⟨c, rfl, _⟩ := h; rfl
  · obtain ⟨c, rfl, h⟩ := h
    refine ⟨_, pss_one (ps_ret (pe_chain op_le_str op_le_str pe_str (pv 0) pe_str)), ?_⟩
    rcases h with ⟨hc, q⟩ | ⟨x, hc, q⟩
    · refine ⟨.str c, rfl, _, c, rfl, rfl, _, rfl, ?_⟩
      have e : (!decide (c.cps.toList < (Str.ofString "a").cps.toList)) = false := by rw [show c.cps.toList = [] from hc]; decide
      rw [e]; exact iteF q
    · refine ⟨.str c, rfl, _, c, rfl, rfl, _, rfl, ?_⟩
      have e : (!decide (c.cps.toList < (Str.ofString "a").cps.toList)) = decide (97 ≤ x) := by rw [show c.cps.toList = [x] from hc, show (Str.ofString "a").cps.toList = [97] by decide +kernel, lt_one, Bool.not_not]
      have e2 : (!decide ((Str.ofString "z").cps.toList < c.cps.toList)) = decide (x ≤ 122) := by rw [show c.cps.toList = [x] from hc, show (Str.ofString "z").cps.toList = [122] by decide +kernel, lt_one, Bool.not_not]
      rw [e]
      refine ite2 (fun h => ?_) (fun h => ?_)
      · refine ⟨c, _, rfl, rfl, ?_⟩
        rw [e2]; unfold isL at q; rw [h, Bool.true_and] at q; exact q
      · have h' : decide (97 ≤ x) = false := by simpa using h
        unfold isL at q; rw [h', Bool.false_and] at q; exact q
/-! ### name_end -/
/-- what stands at the end of a run -/
def Stops (f : Nat → Bool) (R : List Nat) : Prop := ∀ c r, R = c :: r → f c = false
def spEnd : Sp := fun vs H Q _ => ∃ (z : Str) (A N R : List Nat), vs = [.str z, .int (A.length : Int)] ∧ tl z = A ++ (N ++ R) ∧ (∀ c ∈ N, isL c = true) ∧ N.length ≤ 8 ∧ (N.length = 8 ∨ Stops isL R) ∧ z.length ≤ 1000000 ∧ Q (.int ((A.length + N.length : Nat) : Int)) H
theorem scEnd : FnScope ["text", "start", "end"] ["text", "start"] (defScope sNameEnd) := ⟨rfl, rfl, rfl, by decide +kernel, rfl, by decide +kernel, by decide +kernel⟩
theorem ok_end {f f_is_letter : Addr} {fd fd_is_letter : FuncData} (Z : Cst mg t1 t2 t3 t4 t5 t6) (F : Fun K "name_end" "name_end" sNameEnd f fd)
    (F_is_letter : Fun K "is_letter" "is_letter" sLetter f_is_letter fd_is_letter) (b_is_letter : Binds K fd_is_letter ["char"] []) (g_is_letter : mg "is_letter" = some (.ref f_is_letter)) :
    FnOk P w K mg base CX0 2 f fd ["text", "start"] spEnd := by
  have G_is_letter : FnOk P w K mg base CX0 1 f_is_letter fd_is_letter ["char"] (spLet isL) := ok_letter F_is_letter
  refine F.ok scEnd (fun vs H Q E h => ?_) (fun cdv A0 outer s H vs Q E hr h => ?_)
  · obtain ⟨z, A, N, R, rfl, _⟩ := h; rfl
  · obtain ⟨z, A, N, R, rfl, hz, hN, h8, hR, hl, q⟩ := h
    refine ⟨_, (pss_cons (ps_set (i := 2) scEnd.nd rfl (.inl rfl) (pv 1))
      (pss_cons (ps_while (PassesOwn.never) (PW.pt (pw_and (pt_cmpR op_lt (pe_op op_sub (pv 2) (pv 1)) (pe_glob (v := .int 8) (by rfl) Z.g_LONGEST_NAME ⟨_, rfl⟩) (nomark _)) (pw_and1 (pt_val (pe_call G_is_letter hr (by rfl) g_is_letter F_is_letter.kp b_is_letter .nil pass0 (pa_cons (pe_slice sl_str (pv 0) (po_some (pv 2)) (po_some (pe_op op_add (pv 2) pe_int))) pa_nil))))))
      (pss_one (ps_set (i := 2) scEnd.nd rfl (.inl rfl) (pe_op op_add (pv 2) pe_int))))
      (pss_one (ps_ret (pv 2))))), ?_⟩
    have hzl := tl_len z
    have hsl : z.length ≤ sizeLine := Nat.le_trans hl (by decide)
    refine ⟨.int (A.length : Int), rfl, ?_⟩
    refine ⟨fun m σ H' => ∃ i, m = N.length - i ∧ i ≤ N.length ∧ σ = [some (.str z), some (.int (A.length : Int)), some (.int ((A.length + i : Nat) : Int))] ∧ H' = H, ⟨_, 0, rfl, Nat.zero_le _, rfl, rfl⟩, ?_⟩
    rintro m σ H' ⟨i, rfl, hi, rfl, rfl⟩
    refine ⟨.int ((A.length + i : Nat) : Int), rfl, .int (A.length : Int), rfl, _, _, rfl, rfl, _, 8, rfl, rfl, _, rfl, ite2 (fun h => ?_) (fun h => iteF ?_)⟩
    · have hi8 : i < 8 := by
        have h1 := of_decide_eq_true h; omega
      have hsp : tl z = (A ++ N.take i) ++ (N.drop i ++ R) := by rw [hz, List.append_assoc, ← List.append_assoc (N.take i), List.take_append_drop]
      have hal : (A ++ N.take i).length = A.length + i := by rw [List.length_append, List.length_take, Nat.min_eq_left hi]
      have hc := cut_one z hsp
      rw [hal] at hc
      refine ⟨.str z, rfl, .int ((A.length + i : Nat) : Int), rfl, _, rfl, .int ((A.length + i : Nat) : Int), rfl, _, 1, rfl, rfl, _, rfl, z, rfl, hsl, _, rfl, ?_⟩
      by_cases hin : i < N.length
      · have hd : N.drop i = (N[i]'hin) :: N.drop (i + 1) := List.drop_eq_getElem_cons hin
        rw [hd] at hc
        refine .inr ⟨_, hc, _, rfl, ?_⟩
        rw [hN _ (List.getElem_mem hin)]
        refine iteT ⟨fun σ' H'' => σ' = [some (.str z), some (.int (A.length : Int)), some (.int ((A.length + (i + 1) : Nat) : Int))] ∧ H'' = H', fun σ' H'' ⟨e1, e2⟩ => ⟨N.length - (i + 1), by omega, i + 1, rfl, hin, e1, e2⟩, ?_⟩
        exact ⟨.int ((A.length + i : Nat) : Int), rfl, _, 1, rfl, rfl, by rw [show ((A.length + (i + 1) : Nat) : Int) = ((A.length + i : Nat) : Int) + 1 by omega]; rfl, rfl⟩
      · obtain rfl : i = N.length := by omega
        have hst : Stops isL R := by rcases hR with h | h; (omega); (exact h)
        rw [List.drop_length, List.nil_append] at hc
        cases R with
        | nil => exact .inl ⟨hc, _, rfl, iteF ⟨_, rfl, q⟩⟩
        | cons c r =>
          refine .inr ⟨c, hc, _, rfl, ?_⟩
          rw [hst c r rfl]
          exact iteF ⟨_, rfl, q⟩
    · have hi8 : i = N.length := by
        have h1 : ¬ (((A.length + i : Nat) : Int) - (A.length : Int) < 8) := fun z => h (decide_eq_true z)
        omega
      subst hi8
      exact ⟨_, rfl, q⟩

/-! ### is_name -/
def spIsName : Sp := fun vs H Q _ => ∃ (z : Str), vs = [.str z] ∧ Name z ∧ Q (.bl true) H
theorem scIsName : FnScope ["text"] ["text"] (defScope sIsName) := ⟨rfl, rfl, rfl, by decide +kernel, rfl, by decide +kernel, by decide +kernel⟩
theorem ok_isname {f f_name_end f_is_letter : Addr} {fd fd_name_end fd_is_letter : FuncData} (B : Blt mg) (Z : Cst mg t1 t2 t3 t4 t5 t6) (F : Fun K "is_name" "is_name" sIsName f fd)
    (F_name_end : Fun K "name_end" "name_end" sNameEnd f_name_end fd_name_end) (b_name_end : Binds K fd_name_end ["text", "start"] []) (g_name_end : mg "name_end" = some (.ref f_name_end))
    (F_is_letter : Fun K "is_letter" "is_letter" sLetter f_is_letter fd_is_letter) (b_is_letter : Binds K fd_is_letter ["char"] []) (g_is_letter : mg "is_letter" = some (.ref f_is_letter)) :
    FnOk P w K mg base CX0 3 f fd ["text"] spIsName := by
  have G_name_end : FnOk P w K mg base CX0 2 f_name_end fd_name_end ["text", "start"] spEnd := ok_end Z F_name_end F_is_letter b_is_letter g_is_letter
  refine F.ok scIsName (fun vs H Q E h => ?_) (fun cdv A0 outer s H vs Q E hr h => ?_)
  · obtain ⟨z, rfl, _⟩ := h; rfl
  · obtain ⟨z, rfl, hz, q⟩ := h
    refine ⟨_, (pss_one (ps_ret (pe_and (pe_cmpR op_ne (pv 0) pe_str (nomark _)) (pe_one (pe_cmpR op_eq (pe_call G_name_end hr (by rfl) g_name_end F_name_end.kp b_name_end .nil pass0 (pa_cons (pv 0) (pa_cons pe_int pa_nil))) (pe_callB call_len (by rfl) B.len PySem.boot_len (pa_cons (pv 0) pa_nil)) (nomark _)))))), ?_⟩
    have hl := tl_len z
    obtain ⟨n1, n8, nL⟩ := hz
    refine ⟨.str z, rfl, rfl, _, rfl, ?_⟩
    rw [eqE, decide_eq_false (by intro e; rw [e] at n1; simp at n1)]
    refine iteT ⟨.str z, rfl, z, [], tl z, [], rfl, by simp, nL, n8, .inr (fun c r h => by cases h), by omega, .str z, rfl, .str z, z.length, rfl, ⟨by rw [sizeLine_eq]; omega, rfl⟩, rfl, ?_⟩
    rw [decide_eq_true (by rw [hl]; simp)]
    exact q
/-! ### _read_test -/
def TstAt (H : Hp) (v : V) (x : Tst) : Prop := ∃ t, v = .ref t ∧ H t = some (.tup [.str x.1, .str x.2])
def spTest : Sp := fun vs H Q _ => ∃ (z : Str) (x : Tst), vs = [.str z] ∧ GoodT x ∧ tl z = wordL x ∧ ∀ H' t, Same H H' → H' t = some (.tup [.str x.1, .str x.2]) → Q (.ref t) H'
theorem scTest : FnScope ["word", "kind", "dot", "mark"] ["word"] (defScope sTest) := ⟨rfl, rfl, rfl, by decide +kernel, rfl, by decide +kernel, by decide +kernel⟩
theorem emp_tl : tl Str.empty = [] := rfl
theorem part_test {z : Str} {x : Tst} (h : GoodT x) (hz : tl z = wordL x) : Txt.partition z dotS = (x.1, if tl x.2 = [] then Str.empty else dotS, x.2) := by
  unfold wordL at hz
  by_cases he : tl x.2 = []
  · rw [if_pos he] at hz ⊢
    have ez : z = x.1 := str_eq (by rw [hz]; simp)
    have e2 : x.2 = Str.empty := str_eq he
    have := TL.partition_none (y := dotS) (s := 46) (S := []) tl_dot (a := x.1) (kind_free h (by decide) (by decide))
    rw [ez, this, ← e2]
  · rw [if_neg he] at hz ⊢
    have ez : z = x.1 ++ dotS ++ x.2 := str_eq (by rw [hz, tl_add, tl_add, tl_dot]; simp)
    rw [ez]
    exact TL.partition_app (y := dotS) (s := 46) (S := []) tl_dot (kind_free h (by decide) (by decide))
theorem ok_test {f f_is_name f_name_end f_is_letter : Addr} {fd fd_is_name fd_name_end fd_is_letter : FuncData} (B : Blt mg) (Z : Cst mg t1 t2 t3 t4 t5 t6) (F : Fun K "_read_test" "_read_test" sTest f fd)
    (F_is_name : Fun K "is_name" "is_name" sIsName f_is_name fd_is_name) (b_is_name : Binds K fd_is_name ["text"] []) (g_is_name : mg "is_name" = some (.ref f_is_name))
    (F_name_end : Fun K "name_end" "name_end" sNameEnd f_name_end fd_name_end) (b_name_end : Binds K fd_name_end ["text", "start"] []) (g_name_end : mg "name_end" = some (.ref f_name_end))
    (F_is_letter : Fun K "is_letter" "is_letter" sLetter f_is_letter fd_is_letter) (b_is_letter : Binds K fd_is_letter ["char"] []) (g_is_letter : mg "is_letter" = some (.ref f_is_letter)) :
    FnOk P w K mg base CX0 4 f fd ["word"] spTest := by
  have G_is_name : FnOk P w K mg base CX0 3 f_is_name fd_is_name ["text"] spIsName := ok_isname B Z F_is_name F_name_end b_name_end g_name_end F_is_letter b_is_letter g_is_letter
  refine F.ok scTest (fun vs H Q E h => ?_) (fun cdv A0 outer s H vs Q E hr h => ?_)
  · obtain ⟨z, x, rfl, _⟩ := h; rfl
  · obtain ⟨z, x, rfl, gx, hz, q⟩ := h
    refine ⟨_, (pss_cons (ps_asg (pe_partition (pv 0) pe_str) (pg_tup rfl (pgs_cons (pg_name (i := 1) scTest.nd rfl (.inl rfl)) (pgs_cons (pg_name (i := 2) scTest.nd rfl (.inl rfl)) (pgs_cons (pg_name (i := 3) scTest.nd rfl (.inl rfl)) pgs_nil)))))
      (pss_cons (ps_if (PW.pt (pw_and (pt_cmpR op_ne (pv 1) (pe_glob (v := .str (Str.ofString "*")) (by rfl) Z.g_ANY_KIND ⟨_, rfl⟩) (nomark _)) (pw_and1 (pt_not (pt_val (pe_call G_is_name hr (by rfl) g_is_name F_is_name.kp b_is_name .nil pass0 (pa_cons (pv 1) pa_nil)))))))
      (pss_one (ps_ret pe_non))
      pss_nil)
      (pss_cons (ps_if (PW.pt (pw_and (pt_cmpR op_ne (pv 2) pe_str (nomark _)) (pw_and1 (pt_not (pt_val (pe_call G_is_name hr (by rfl) g_is_name F_is_name.kp b_is_name .nil pass0 (pa_cons (pv 3) pa_nil)))))))
      (pss_one (ps_ret pe_non))
      pss_nil)
      (pss_one (ps_ret (pe_tup (pa_cons (pv 1) (pa_cons (pv 3) pa_nil)))))))), ?_⟩
    have hzl : z.length ≤ 100 := by have := word_len gx; rw [← tl_len, hz]; omega
    refine ⟨.str z, rfl, ⟨z, rfl⟩, z, dotS, rfl, rfl, by decide +kernel, Nat.le_trans hzl (by decide), fun p np => ?_⟩
    rw [part_test gx hz]
    generalize hd : (if tl x.2 = [] then Str.empty else dotS) = d
    have s1 : Same H (upd H p (.tup [.str x.1, .str d, .str x.2])) := same_new np
    refine ⟨p, _, rfl, SqT.of upd_same, rfl, .str x.1, _, rfl, .str d, _, rfl, .str x.2, _, rfl, rfl, ?_⟩
    generalize upd H p (.tup [.str x.1, .str d, .str x.2]) = H1 at s1 ⊢
    have e1 : decide (V.str x.1 = V.str (Str.ofString "*")) = decide (x.1 = starS) := by
      refine decide_eq_decide.mpr ⟨fun e => by injection e, fun e => by rw [e]; rfl⟩
    have n1 : ¬ x.1 = starS → Name x.1 := fun hs => by rcases gx.1 with h | h; exact absurd h hs; exact h
    have n2 : ¬ tl x.2 = [] → Name x.2 := fun hs => by rcases gx.2 with h | h; exact absurd h hs; exact h
    have e2 : decide (V.str d = V.str (Str.ofString "")) = decide (tl x.2 = []) := by
      rw [eqE]
      by_cases he : tl x.2 = []
      · rw [if_pos he] at hd; subst hd; rw [decide_eq_true he]; rfl
      · rw [if_neg he] at hd; subst hd; rw [decide_eq_false he, tl_dot]; rfl
    refine ⟨.str x.1, rfl, rfl, _, rfl, ?_⟩
    rw [e1]
    by_cases hs : x.1 = starS
    · rw [decide_eq_true hs]
      refine iteF (iteF ⟨.str d, rfl, rfl, _, rfl, ?_⟩)
      rw [e2]
      by_cases he : tl x.2 = []
      · rw [decide_eq_true he]
        exact iteF (iteF ⟨.str x.1, rfl, .str x.2, rfl, by show 2 ≤ sizeLine; decide, fun t nt => q _ t (s1.trans (same_new nt)) upd_same⟩)
      · rw [decide_eq_false he]
        exact iteT ⟨.str x.2, rfl, x.2, rfl, n2 he, true, rfl, iteF ⟨.str x.1, rfl, .str x.2, rfl, by show 2 ≤ sizeLine; decide, fun t nt => q _ t (s1.trans (same_new nt)) upd_same⟩⟩
    · rw [decide_eq_false hs]
      refine iteT ⟨.str x.1, rfl, x.1, rfl, n1 hs, true, rfl, iteF ⟨.str d, rfl, rfl, _, rfl, ?_⟩⟩
      rw [e2]
      by_cases he : tl x.2 = []
      · rw [decide_eq_true he]
        exact iteF (iteF ⟨.str x.1, rfl, .str x.2, rfl, by show 2 ≤ sizeLine; decide, fun t nt => q _ t (s1.trans (same_new nt)) upd_same⟩)
      · rw [decide_eq_false he]
        exact iteT ⟨.str x.2, rfl, x.2, rfl, n2 he, true, rfl, iteF ⟨.str x.1, rfl, .str x.2, rfl, by show 2 ≤ sizeLine; decide, fun t nt => q _ t (s1.trans (same_new nt)) upd_same⟩⟩
end
end K09

set_option maxRecDepth 100000
set_option maxHeartbeats 4000000
namespace K09
open PySem PySem.Spec PyProof.Rows L2
def lkS (l : Nat) : Str := if l = 0 then Str.ofString "" else if l = 1 then Str.ofString ">" else Str.ofString "+"
theorem tl_lk {l : Nat} (h : l = 1 ∨ l = 2) : tl (lkS l) = symL l := by rcases h with rfl | rfl <;> decide +kernel
def TstsAt (H : Hp) (us : List V) (xs : List Tst) : Prop := us.length = xs.length ∧ ∀ (i : Nat) (v : V) (x : Tst), us[i]? = some v → xs[i]? = some x → TstAt H v x
theorem TstsAt.nil {H : Hp} : TstsAt H [] [] := ⟨rfl, fun i v x h => by simp at h⟩
theorem TstsAt.tups {H H' : Hp} {vs : List V} {xs : List Tst} (h : TstsAt H vs xs) (s : ∀ b ys, H b = some (.tup ys) → H' b = some (.tup ys)) : TstsAt H' vs xs :=
  ⟨h.1, fun i v x a b => by obtain ⟨t, e, ht⟩ := h.2 i v x a b; exact ⟨t, e, s _ _ ht⟩⟩
theorem TstsAt.same {H H' : Hp} {vs : List V} {xs : List Tst} (h : TstsAt H vs xs) (s : Same H H') : TstsAt H' vs xs := h.tups fun _ _ e => s _ _ e
theorem TstsAt.snoc {H : Hp} {vs : List V} {xs : List Tst} {v : V} {x : Tst} (h : TstsAt H vs xs) (ht : TstAt H v x) : TstsAt H (vs ++ [v]) (xs ++ [x]) := by
  obtain ⟨hl, hi⟩ := h
  refine ⟨by rw [List.length_append, List.length_append, hl]; rfl, fun i u y a b => ?_⟩
  by_cases h : i < vs.length
  · rw [List.getElem?_append_left h] at a
    rw [List.getElem?_append_left (by omega)] at b
    exact hi i u y a b
  · have h2 := (List.getElem?_eq_some_iff.mp a).1
    rw [List.length_append, List.length_singleton] at h2
    obtain rfl : i = vs.length := by omega
    rw [List.getElem?_append_right (Nat.le_refl _), Nat.sub_self] at a
    rw [List.getElem?_append_right (by omega), hl, Nat.sub_self] at b
    cases a; cases b
    exact ht
theorem TstsAt.get {H : Hp} {vs : List V} {xs : List Tst} {i : Nat} {x : Tst} (h : TstsAt H vs xs) (hx : xs[i]? = some x) : ∃ v t, vs[i]? = some v ∧ v = .ref t ∧ H t = some (.tup [.str x.1, .str x.2]) := by
  have hi := (List.getElem?_eq_some_iff.mp hx).1
  have hv : vs[i]? = some (vs[i]'(by have := h.1; omega)) := List.getElem?_eq_getElem _
  obtain ⟨t, e, ht⟩ := h.2 i _ x hv hx
  exact ⟨_, t, hv, e, ht⟩
abbrev lv (l : Nat) : V := .str (lkS l)
theorem eqStr (a b : Str) : (a == b) = decide (a = b) := by
  by_cases h : a = b
  · rw [decide_eq_true h]; exact beq_iff_eq.mpr h
  · rw [decide_eq_false h]; exact beq_eq_false_iff_ne.mpr h
theorem inV_syms (z : Str) : inV (.str z) [.str (Str.ofString ">"), .str (Str.ofString "+")] = (decide (tl z = [62]) || decide (tl z = [43])) := by
  show ((Str.ofString ">" == z) || ((Str.ofString "+" == z) || false)) = _
  rw [Bool.or_false, eqStr, eqStr]
  congr 1
  · refine decide_eq_decide.mpr ⟨fun h => by rw [← h]; decide +kernel, fun h => str_eq (by rw [h]; decide +kernel)⟩
  · refine decide_eq_decide.mpr ⟨fun h => by rw [← h]; decide +kernel, fun h => str_eq (by rw [h]; decide +kernel)⟩
theorem word_sym {x : Tst} (h : GoodT x) : (decide (wordL x = [62]) || decide (wordL x = [43])) = false := by
  have h1 := kind_len h
  obtain ⟨c, r, hc⟩ : ∃ c r, tl x.1 = c :: r := by
    cases e : tl x.1 with
    | nil => rw [e] at h1; simp at h1
    | cons c r => exact ⟨c, r, rfl⟩
  have hcc : c ≠ 62 ∧ c ≠ 43 := by
    rcases h.1 with h2 | h2
    · rw [h2, tl_star] at hc; cases hc; decide
    · have := h2.2.2 c (by rw [hc]; exact List.mem_cons_self)
      simp [isL] at this; omega
  unfold wordL
  rw [hc]
  rw [decide_eq_false (by intro e; rw [List.cons_append] at e; injection e with e; exact hcc.1 e), decide_eq_false (by intro e; rw [List.cons_append] at e; injection e with e; exact hcc.2 e)]
  rfl
section
variable {P : Program} {w : World} {K : PySem.W.Frag} {mg : Str → Option Value} {base : Heap} {t1 t2 t3 t4 t5 t6 : Tok}
/-! ### _read_tests -/
/-- a pattern's parts in the heap: its tests at a, its links at b -/
structure Parts (H : Hp) (a b : Addr) (ts : List Tst) (ls : List Nat) : Prop where
  tests : ∃ us, H a = some (.tup us) ∧ TstsAt H us ts
  links : H b = some (.tup (ls.map lv))
theorem Parts.same {H H' : Hp} {a b : Addr} {ts : List Tst} {ls : List Nat} (h : Parts H a b ts ls) (s : Same H H') : Parts H' a b ts ls := by
  obtain ⟨⟨us, h1, h2⟩, h3⟩ := h
  exact ⟨⟨us, s _ _ h1, h2.same s⟩, s _ _ h3⟩
def spTests : Sp := fun vs H Q _ => ∃ (z : Str) (tk : List Tk) (ts : List Tst) (ls : List Nat), vs = [.str z] ∧ tk ≠ [] ∧ tk.length ≤ 20 ∧ okTk ([], [], 0) tk ∧ tl z = TL.joinL [32] (tk.map encT) ∧ tk.foldl stp ([], [], 0) = (ts, ls, 0) ∧ ts.length ≤ 4 ∧ z.length ≤ 1000 ∧
  ∀ H' p a b, Same H H' → H' p = some (.tup [.ref a, .ref b]) → Parts H' a b ts ls → Q (.ref p) H'
theorem scTests : FnScope ["text", "tests", "links", "link", "word", "test"] ["text"] (defScope sTests) := ⟨rfl, rfl, rfl, by decide +kernel, rfl, by decide +kernel, by decide +kernel⟩
theorem stp_len (s : Ps) (t : Tk) : (stp s t).1.length ≤ s.1.length + 1 ∧ (stp s t).2.1.length ≤ s.2.1.length + 1 := by
  obtain ⟨ts, ls, p⟩ := s
  cases t with
  | lnk l => exact ⟨Nat.le_succ ts.length, Nat.le_succ ls.length⟩
  | tst x =>
    refine ⟨by show (ts ++ [x]).length ≤ _; rw [List.length_append]; exact Nat.le_refl _, ?_⟩
    show (if ts = [] then ls else ls ++ [p]).length ≤ _
    split
    · exact Nat.le_succ ls.length
    · rw [List.length_append]; exact Nat.le_refl _
theorem ok_tests {f f_read_test f_is_name f_name_end f_is_letter : Addr} {fd fd_read_test fd_is_name fd_name_end fd_is_letter : FuncData} (B : Blt mg) (Z : Cst mg t1 t2 t3 t4 t5 t6) (F : Fun K "_read_tests" "_read_tests" sTests f fd)
    (F_read_test : Fun K "_read_test" "_read_test" sTest f_read_test fd_read_test) (b_read_test : Binds K fd_read_test ["word"] []) (g_read_test : mg "_read_test" = some (.ref f_read_test))
    (F_is_name : Fun K "is_name" "is_name" sIsName f_is_name fd_is_name) (b_is_name : Binds K fd_is_name ["text"] []) (g_is_name : mg "is_name" = some (.ref f_is_name))
    (F_name_end : Fun K "name_end" "name_end" sNameEnd f_name_end fd_name_end) (b_name_end : Binds K fd_name_end ["text", "start"] []) (g_name_end : mg "name_end" = some (.ref f_name_end))
    (F_is_letter : Fun K "is_letter" "is_letter" sLetter f_is_letter fd_is_letter) (b_is_letter : Binds K fd_is_letter ["char"] []) (g_is_letter : mg "is_letter" = some (.ref f_is_letter)) :
    FnOk P w K mg base CX0 5 f fd ["text"] spTests := by
  have G_read_test : FnOk P w K mg base CX0 4 f_read_test fd_read_test ["word"] spTest := ok_test B Z F_read_test F_is_name b_is_name g_is_name F_name_end b_name_end g_name_end F_is_letter b_is_letter g_is_letter
  refine F.ok scTests (fun vs H Q E h => ?_) (fun cdv A0 outer s H vs Q E hr h => ?_)
  · obtain ⟨z, tk, ts, ls, rfl, _⟩ := h; rfl
  · obtain ⟨z, tk, ts, ls, rfl, hne, h20, hok, hz, hfin, h4, hzl, q⟩ := h
    refine ⟨_, (pss_cons (ps_set (i := 1) scTests.nd rfl (.inl rfl) (pe_lst pa_nil))
      (pss_cons (ps_set (i := 2) scTests.nd rfl (.inl rfl) (pe_lst pa_nil))
      (pss_cons (ps_set (i := 3) scTests.nd rfl (.inl rfl) (pe_glob (v := .str (Str.ofString "")) (by rfl) Z.g_INSIDE ⟨_, rfl⟩))
      (pss_cons (ps_for (PassesOwn.never) rfl (pi_list (pe_split (pv 0) pe_str)) (pg_name (i := 4) scTests.nd rfl (.inl rfl))
      (pss_one (ps_if (PW.pt (pw_and (pt_truth (pv 1) (by intro _; rfl)) (pw_and (pt_cmpR op_eq (pv 3) (pe_glob (v := .str (Str.ofString "")) (by rfl) Z.g_INSIDE ⟨_, rfl⟩) (nomark _)) (pw_and1 (pt_cmpR op_in_seq (pv 4) (pe_tup (pa_cons (pe_glob (v := .str (Str.ofString ">")) (by rfl) Z.g_CHILD ⟨_, rfl⟩) (pa_cons (pe_glob (v := .str (Str.ofString "+")) (by rfl) Z.g_BEHIND ⟨_, rfl⟩) pa_nil))) (by with_unfolding_all rfl))))))
       (pss_one (ps_set (i := 3) scTests.nd rfl (.inl rfl) (pv 4)))
       (pss_cons (ps_set (i := 5) scTests.nd rfl (.inl rfl) (pe_call G_read_test hr (by rfl) g_read_test F_read_test.kp b_read_test .nil pass0 (pa_cons (pv 4) pa_nil)))
        (pss_cons (ps_if (pt_cmpR op_isN (pv 5) pe_non (nomark _))
        (pss_one (ps_ret pe_non))
        pss_nil)
        (pss_cons (ps_if (pt_truth (pv 1) (by intro _; rfl))
        (pss_one (ps_expr (pe_bm PySem.F.plainAttrs_list PySem.F.slot_list_append PySem.F.type_list_append mt_append (pv 2) (pa_cons (pv 3) pa_nil))))
        pss_nil)
        (pss_cons (ps_expr (pe_bm PySem.F.plainAttrs_list PySem.F.slot_list_append PySem.F.type_list_append mt_append (pv 1) (pa_cons (pv 5) pa_nil)))
        (pss_one (ps_set (i := 3) scTests.nd rfl (.inl rfl) (pe_glob (v := .str (Str.ofString "")) (by rfl) Z.g_INSIDE ⟨_, rfl⟩))))))))))
      (pss_cons (ps_if (PW.pt (pw_or (pt_cmpR op_ne (pv 3) (pe_glob (v := .str (Str.ofString "")) (by rfl) Z.g_INSIDE ⟨_, rfl⟩) (nomark _)) (pw_or1 (pt_cmpR op_gt (pe_callB call_len (by rfl) B.len PySem.boot_len (pa_cons (pv 1) pa_nil)) (pe_glob (v := .int 4) (by rfl) Z.g_MOST_TESTS ⟨_, rfl⟩) (nomark _)))))
      (pss_one (ps_ret pe_non))
      pss_nil)
      (pss_one (ps_ret (pe_tup (pa_cons (pe_callTy call_tuple_of (by rfl) B.tuple (by decide +kernel) (pa_cons (pv 1) pa_nil)) (pa_cons (pe_callTy call_tuple_of (by rfl) B.tuple (by decide +kernel) (pa_cons (pv 2) pa_nil)) pa_nil)))))))))), ?_⟩
    have hsp := split_toks hz hne hok
    have hpl : (Txt.split z blankS).length = tk.length := by have := congrArg List.length hsp; rw [List.length_map, List.length_map] at this; exact this
    refine ⟨Nat.zero_le _, fun ta na => ⟨Nat.zero_le _, fun la nl => ?_⟩⟩
    have s0 : Same H (upd (upd H ta (.lst [])) la (.lst [])) := same_new2 (same_new na) nl
    have nal : ta ≠ la := ne_of_none (o := .lst []) upd_same nl
    have ea : (upd (upd H ta (.lst [])) la (.lst [])) ta = some (.lst []) := by rw [upd_ne nal]; exact upd_same
    have el : (upd (upd H ta (.lst [])) la (.lst [])) la = some (.lst (([] : List Nat).map lv)) := upd_same
    have nl0 : H la = none := by rw [upd_ne (Ne.symm nal)] at nl; exact nl
    generalize upd (upd H ta (.lst [])) la (.lst []) = H0 at s0 ea el ⊢
    refine ⟨.str z, rfl, ⟨_, rfl⟩, z, blankS, rfl, rfl, by decide +kernel, by rw [sizeLine_eq]; omega, fun L nL => ⟨L, rfl, ⟨_, SqL.of upd_same⟩, ?_⟩⟩
    have s1 : Same H0 (upd H0 L (.lst ((Txt.split z blankS).map V.str))) := same_new nL
    have eL : (upd H0 L (.lst ((Txt.split z blankS).map V.str))) L = some (.lst ((Txt.split z blankS).map V.str)) := upd_same
    have naL : ta ≠ L := ne_of_none ea nL
    have nlL : la ≠ L := ne_of_none el nL
    have ea1 := s1 _ _ ea
    have el1 := s1 _ _ el
    generalize upd H0 L (.lst ((Txt.split z blankS).map V.str)) = H1 at s1 eL ea1 el1 ⊢
    refine for_list (K := K) (a := L) (xs := (Txt.split z blankS).map V.str) (fun i σ H' => ∃ (y4 y5 : Option V) (us : List V) (s : Ps), σ = [some (.str z), some (.ref ta), some (.ref la), some (lv s.2.2), y4, y5] ∧ Same H H' ∧ H' L = some (.lst ((Txt.split z blankS).map V.str)) ∧ H' ta = some (.lst us) ∧ TstsAt H' us s.1 ∧ H' la = some (.lst (s.2.1.map lv)) ∧
        okTk s (tk.drop i) ∧ (tk.drop i).foldl stp s = (ts, ls, 0) ∧ s.1.length ≤ i ∧ s.2.1.length ≤ i)
      ⟨none, none, [], ([], [], 0), rfl, s0.trans s1, eL, ea1, TstsAt.nil, el1, hok, hfin, Nat.le_refl _, Nat.le_refl _⟩ (fun i σ H' _ ⟨_, _, _, _, _, _, h, _⟩ => SqL.of h) ?_ ?_
    · rintro i v σ H' hi ⟨y4, y5, us, ⟨ts', ls', p'⟩, rfl, sm, hL, hta, hus, hla, hok', hf', hl1, hl2⟩
      rw [List.getElem?_map] at hi
      cases en : (Txt.split z blankS)[i]? with
      | none => rw [en] at hi; cases hi
      | some wd =>
      rw [en] at hi; cases hi
      have hilt := (List.getElem?_eq_some_iff.mp en).1
      have htk : tk[i]? = some (tk[i]'(by omega)) := List.getElem?_eq_getElem _
      have hwd : tl wd = encT (tk[i]'(by omega)) := by
        have h1 : ((Txt.split z blankS).map tl)[i]? = some (tl wd) := by rw [List.getElem?_map, en]; rfl
        rw [hsp, List.getElem?_map, htk] at h1
        injection h1 with h1; exact h1.symm
      have hdr : tk.drop i = (tk[i]'(by omega)) :: tk.drop (i + 1) := List.drop_eq_getElem_cons (by omega)
      rw [hdr] at hok' hf'
      generalize tk[i]'(by omega) = tok at hwd hok' hf'
      have hul := hus.1
      have hl1' : ts'.length ≤ i := hl1
      have hl2' : ls'.length ≤ i := hl2
      have nLta : L ≠ ta := Ne.symm naL
      have nLla : L ≠ la := Ne.symm nlL
      refine ⟨.ref ta, rfl, _, .inl ⟨_, SqL.of hta, rfl⟩, ?_⟩
      have hus0 : ts' = [] ↔ us = [] := by
        constructor
        · rintro rfl; exact List.length_eq_zero_iff.mp hul
        · rintro rfl; exact List.length_eq_zero_iff.mp hul.symm
      cases tok with
      | lnk l =>
        obtain ⟨hne', hp0, hl12, hok2⟩ := hok'
        have hp0' : p' = 0 := hp0
        subst hp0'
        have hue : us ≠ [] := fun h => hne' (hus0.mpr h)
        have e : (!us.isEmpty) = true := by cases us with
          | nil => exact absurd rfl hue
          | cons _ _ => rfl
        rw [e]
        refine iteT ⟨lv 0, rfl, rfl, _, rfl, ?_⟩
        rw [decide_eq_true (show lv 0 = V.str (Str.ofString "") from rfl)]
        refine iteT ⟨.str wd, rfl, by show 2 ≤ sizeLine; decide, fun t nt => ⟨t, _, rfl, .inr (SqT.of upd_same), rfl, rfl, _, rfl, ?_⟩⟩
        show (if inV _ _ = true then _ else _)
        rw [inV_syms, show tl wd = symL l from hwd]
        have e2 : (decide (symL l = [62]) || decide (symL l = [43])) = true := by rcases hl12 with rfl | rfl <;> decide
        rw [e2]
        have ew : wd = lkS l := str_eq (by rw [hwd, tl_lk hl12]; rfl)
        have st := same_new nt (o := .tup [.str (Str.ofString ">"), .str (Str.ofString "+")])
        refine iteT ⟨.str wd, rfl, some (.str wd), y5, us, (ts', ls', l), by first | (rw [ew]; done) | (rw [ew]; rfl), sm.trans st, st _ _ hL, st _ _ hta, hus.same st, st _ _ hla, hok2, hf', by show ts'.length ≤ _; omega, by show ls'.length ≤ _; omega⟩
      | tst x =>
        obtain ⟨gx, hok2⟩ := hok'
        have hnot : (decide (tl wd = [62]) || decide (tl wd = [43])) = false := by rw [show tl wd = wordL x from hwd]; exact word_sym gx
        cases hue : us.isEmpty with
        | true =>
          refine iteF (iteF ?_)
          refine ⟨.str wd, rfl, wd, x, rfl, gx, hwd, fun H2 t s2 ht => ⟨.ref t, rfl, rfl, _, rfl, iteF ?_⟩⟩
          have hta2 := s2 _ _ hta
          have hla2 := s2 _ _ hla
          have hL2 := s2 _ _ hL
          have hus2 := TstsAt.same hus s2
          have sm2 := Same.trans sm s2
          refine ⟨.ref ta, rfl, _, .inl ⟨_, SqL.of hta2, rfl⟩, ?_⟩
          by_cases hts : ts' = []
          · have hu0 := hus0.mp hts
            subst hts
            subst hu0
            refine iteF ⟨.ref ta, rfl, .inl ⟨rfl, _, SqL.of hta2⟩, .ref t, rfl, ta, [], .ref t, rfl, rfl, hta2, by decide, ?_⟩
            refine ⟨_, _, [.ref t], ([x], ls', 0), rfl, same_at sm2 na, by rw [upd_ne nLta]; exact hL2, upd_same, TstsAt.snoc (TstsAt.nil) ⟨t, rfl, by rw [upd_ne (ne_of ht hta2 (by intro z; cases z))]; exact ht⟩, by rw [upd_ne (Ne.symm nal)]; exact hla2, hok2, hf', by show 1 ≤ _; omega, by show ls'.length ≤ _; omega⟩
          · have hue : us ≠ [] := fun h => hts (hus0.mpr h)
            have e : (!us.isEmpty) = true := by cases us with
              | nil => exact absurd rfl hue
              | cons _ _ => rfl
            rw [e]
            rw [stp_tst hts] at hok2
            have hf2 : (tk.drop (i + 1)).foldl stp (stp (ts', ls', p') (.tst x)) = (ts, ls, 0) := hf'
            rw [stp_tst hts] at hf2
            refine iteT ⟨.ref la, rfl, .inl ⟨rfl, _, SqL.of hla2⟩, lv p', rfl, la, _, _, rfl, rfl, hla2, small1000 (by rw [List.length_map]; show ls'.length ≤ 1000; omega), ?_⟩
            have hta3 : (upd H2 la (.lst (ls'.map lv ++ [lv p']))) ta = some (.lst us) := by rw [upd_ne nal]; exact hta2
            refine ⟨.ref ta, rfl, .inl ⟨rfl, _, SqL.of hta3⟩, .ref t, rfl, ta, us, .ref t, rfl, rfl, hta3, small1000 (by rw [hul]; show ts'.length ≤ 1000; omega), ?_⟩
            have tt : ∀ b ys, H2 b = some (.tup ys) → (upd (upd H2 la (.lst (ls'.map lv ++ [lv p']))) ta (.lst (us ++ [.ref t]))) b = some (.tup ys) := fun b ys h => by
              rw [upd_ne (ne_of h hta2 (by intro z; cases z)), upd_ne (ne_of h hla2 (by intro z; cases z))]; exact h
            refine ⟨_, _, us ++ [.ref t], (ts' ++ [x], ls' ++ [p'], 0), rfl, same_at (same_at sm2 nl0) na, by rw [upd_ne nLta, upd_ne nLla]; exact hL2, upd_same, TstsAt.snoc (hus2.tups tt) ⟨t, rfl, tt _ _ ht⟩, by rw [upd_ne (Ne.symm nal), upd_same, List.map_append]; rfl, hok2, hf2, by show (ts' ++ [x]).length ≤ _; rw [List.length_append]; show ts'.length + 1 ≤ _; omega, by show (ls' ++ [p']).length ≤ _; rw [List.length_append]; show ls'.length + 1 ≤ _; omega⟩
        | false =>
          refine iteT ⟨lv p', rfl, rfl, _, rfl, ?_⟩
          cases hp : decide (lv p' = V.str (Str.ofString "")) with
          | false =>
            refine iteF (iteF ?_)
            refine ⟨.str wd, rfl, wd, x, rfl, gx, hwd, fun H2 t s2 ht => ⟨.ref t, rfl, rfl, _, rfl, iteF ?_⟩⟩
            have hta2 := s2 _ _ hta
            have hla2 := s2 _ _ hla
            have hL2 := s2 _ _ hL
            have hus2 := TstsAt.same hus s2
            have sm2 := Same.trans sm s2
            refine ⟨.ref ta, rfl, _, .inl ⟨_, SqL.of hta2, rfl⟩, ?_⟩
            by_cases hts : ts' = []
            · have hu0 := hus0.mp hts
              subst hts
              subst hu0
              refine iteF ⟨.ref ta, rfl, .inl ⟨rfl, _, SqL.of hta2⟩, .ref t, rfl, ta, [], .ref t, rfl, rfl, hta2, by decide, ?_⟩
              refine ⟨_, _, [.ref t], ([x], ls', 0), rfl, same_at sm2 na, by rw [upd_ne nLta]; exact hL2, upd_same, TstsAt.snoc (TstsAt.nil) ⟨t, rfl, by rw [upd_ne (ne_of ht hta2 (by intro z; cases z))]; exact ht⟩, by rw [upd_ne (Ne.symm nal)]; exact hla2, hok2, hf', by show 1 ≤ _; omega, by show ls'.length ≤ _; omega⟩
            · have hue : us ≠ [] := fun h => hts (hus0.mpr h)
              have e : (!us.isEmpty) = true := by cases us with
                | nil => exact absurd rfl hue
                | cons _ _ => rfl
              rw [e]
              rw [stp_tst hts] at hok2
              have hf2 : (tk.drop (i + 1)).foldl stp (stp (ts', ls', p') (.tst x)) = (ts, ls, 0) := hf'
              rw [stp_tst hts] at hf2
              refine iteT ⟨.ref la, rfl, .inl ⟨rfl, _, SqL.of hla2⟩, lv p', rfl, la, _, _, rfl, rfl, hla2, small1000 (by rw [List.length_map]; show ls'.length ≤ 1000; omega), ?_⟩
              have hta3 : (upd H2 la (.lst (ls'.map lv ++ [lv p']))) ta = some (.lst us) := by rw [upd_ne nal]; exact hta2
              refine ⟨.ref ta, rfl, .inl ⟨rfl, _, SqL.of hta3⟩, .ref t, rfl, ta, us, .ref t, rfl, rfl, hta3, small1000 (by rw [hul]; show ts'.length ≤ 1000; omega), ?_⟩
              have tt : ∀ b ys, H2 b = some (.tup ys) → (upd (upd H2 la (.lst (ls'.map lv ++ [lv p']))) ta (.lst (us ++ [.ref t]))) b = some (.tup ys) := fun b ys h => by
                rw [upd_ne (ne_of h hta2 (by intro z; cases z)), upd_ne (ne_of h hla2 (by intro z; cases z))]; exact h
              refine ⟨_, _, us ++ [.ref t], (ts' ++ [x], ls' ++ [p'], 0), rfl, same_at (same_at sm2 nl0) na, by rw [upd_ne nLta, upd_ne nLla]; exact hL2, upd_same, TstsAt.snoc (hus2.tups tt) ⟨t, rfl, tt _ _ ht⟩, by rw [upd_ne (Ne.symm nal), upd_same, List.map_append]; rfl, hok2, hf2, by show (ts' ++ [x]).length ≤ _; rw [List.length_append]; show ts'.length + 1 ≤ _; omega, by show (ls' ++ [p']).length ≤ _; rw [List.length_append]; show ls'.length + 1 ≤ _; omega⟩
          | true =>
            refine iteT ⟨.str wd, rfl, by show 2 ≤ sizeLine; decide, fun tt nt => ⟨tt, _, rfl, .inr (SqT.of upd_same), rfl, rfl, _, rfl, ?_⟩⟩
            show (if inV _ _ = true then _ else _)
            rw [inV_syms, hnot]
            have st := same_new nt (o := .tup [.str (Str.ofString ">"), .str (Str.ofString "+")])
            have smx := sm.trans st
            have hLx := st _ _ hL
            have htax := st _ _ hta
            have hlax := st _ _ hla
            have husx := TstsAt.same hus st
            generalize upd H' tt (.tup [.str (Str.ofString ">"), .str (Str.ofString "+")]) = HX at smx hLx htax hlax husx ⊢
            refine iteF ?_
            refine ⟨.str wd, rfl, wd, x, rfl, gx, hwd, fun H2 t s2 ht => ⟨.ref t, rfl, rfl, _, rfl, iteF ?_⟩⟩
            have hta2 := s2 _ _ htax
            have hla2 := s2 _ _ hlax
            have hL2 := s2 _ _ hLx
            have hus2 := TstsAt.same husx s2
            have sm2 := Same.trans smx s2
            refine ⟨.ref ta, rfl, _, .inl ⟨_, SqL.of hta2, rfl⟩, ?_⟩
            by_cases hts : ts' = []
            · have hu0 := hus0.mp hts
              subst hts
              subst hu0
              refine iteF ⟨.ref ta, rfl, .inl ⟨rfl, _, SqL.of hta2⟩, .ref t, rfl, ta, [], .ref t, rfl, rfl, hta2, by decide, ?_⟩
              refine ⟨_, _, [.ref t], ([x], ls', 0), rfl, same_at sm2 na, by rw [upd_ne nLta]; exact hL2, upd_same, TstsAt.snoc (TstsAt.nil) ⟨t, rfl, by rw [upd_ne (ne_of ht hta2 (by intro z; cases z))]; exact ht⟩, by rw [upd_ne (Ne.symm nal)]; exact hla2, hok2, hf', by show 1 ≤ _; omega, by show ls'.length ≤ _; omega⟩
            · have hue : us ≠ [] := fun h => hts (hus0.mpr h)
              have e : (!us.isEmpty) = true := by cases us with
                | nil => exact absurd rfl hue
                | cons _ _ => rfl
              rw [e]
              rw [stp_tst hts] at hok2
              have hf2 : (tk.drop (i + 1)).foldl stp (stp (ts', ls', p') (.tst x)) = (ts, ls, 0) := hf'
              rw [stp_tst hts] at hf2
              refine iteT ⟨.ref la, rfl, .inl ⟨rfl, _, SqL.of hla2⟩, lv p', rfl, la, _, _, rfl, rfl, hla2, small1000 (by rw [List.length_map]; show ls'.length ≤ 1000; omega), ?_⟩
              have hta3 : (upd H2 la (.lst (ls'.map lv ++ [lv p']))) ta = some (.lst us) := by rw [upd_ne nal]; exact hta2
              refine ⟨.ref ta, rfl, .inl ⟨rfl, _, SqL.of hta3⟩, .ref t, rfl, ta, us, .ref t, rfl, rfl, hta3, small1000 (by rw [hul]; show ts'.length ≤ 1000; omega), ?_⟩
              have tt : ∀ b ys, H2 b = some (.tup ys) → (upd (upd H2 la (.lst (ls'.map lv ++ [lv p']))) ta (.lst (us ++ [.ref t]))) b = some (.tup ys) := fun b ys h => by
                rw [upd_ne (ne_of h hta2 (by intro z; cases z)), upd_ne (ne_of h hla2 (by intro z; cases z))]; exact h
              refine ⟨_, _, us ++ [.ref t], (ts' ++ [x], ls' ++ [p'], 0), rfl, same_at (same_at sm2 nl0) na, by rw [upd_ne nLta, upd_ne nLla]; exact hL2, upd_same, TstsAt.snoc (hus2.tups tt) ⟨t, rfl, tt _ _ ht⟩, by rw [upd_ne (Ne.symm nal), upd_same, List.map_append]; rfl, hok2, hf2, by show (ts' ++ [x]).length ≤ _; rw [List.length_append]; show ts'.length + 1 ≤ _; omega, by show (ls' ++ [p']).length ≤ _; rw [List.length_append]; show ls'.length + 1 ≤ _; omega⟩
    · rintro σ H' ⟨y4, y5, us, ⟨ts', ls', p'⟩, rfl, sm, hL, hta, hus, hla, hok', hf', hl1, hl2⟩
      rw [List.length_map, hpl, List.drop_length] at hf'
      cases hf'
      refine ⟨lv 0, rfl, rfl, _, rfl, ?_⟩
      rw [decide_eq_true (show lv 0 = V.str (Str.ofString "") from rfl)]
      refine iteF ⟨.ref ta, rfl, .ref ta, us.length, rfl, .inl ⟨_, SqL.of hta, rfl⟩, _, 4, rfl, rfl, _, rfl, ?_⟩
      have hul := hus.1
      rw [decide_eq_false (by rw [hul]; show ¬ (4 : Int) < (ts.length : Int); omega)]
      refine iteF ⟨.ref ta, rfl, ta, us, rfl, .inl ⟨SqL.of hta, fun a na2 => ?_⟩⟩
      have sa := same_new na2 (o := .tup us)
      refine ⟨.ref la, rfl, la, _, rfl, .inl ⟨SqL.of (sa _ _ hla), fun b nb => ?_⟩⟩
      have sb := same_new nb (o := .tup (ls.map lv))
      refine ⟨by show 2 ≤ sizeLine; decide, fun p np => q _ p a b (((sm.trans sa).trans sb).trans (same_new np)) upd_same ⟨⟨us, same_new np _ _ (sb _ _ upd_same), ((hus.same sa).same sb).same (same_new np)⟩, same_new np _ _ upd_same⟩⟩
end
end K09

set_option maxRecDepth 100000
set_option maxHeartbeats 4000000
namespace K09
open PySem PySem.Spec PyProof.Rows L2 PySem.W PySem.Calls
/-! isinstance of a caught error whose own dict stands -/
section
variable {prog : Program} {w : World} {A : Around} {E : Value → Shared → Prop} {s : Shared} {K : Frag} {x D : Addr} {ox : Obj} {od : Option Obj}
theorem find_cls (hc : (clsIn K D).isSome = true) (C : L2.ExcC K D) : findObj K D od "__class__" = some (.bind (.builtin "getset_descriptor.__get__") (.builtin "object.__class__")) := by
  obtain ⟨cd, e⟩ := Option.isSome_iff_exists.mp hc
  unfold findObj
  rw [e, Option.bind_some, C.ha, Option.bind_some]; simp [C.hn, C.ht]
theorem ask_cls {Q : Option Value → Shared → Prop} (C : L2.ExcC K D) (X : K.In s.heap) (I : InstAt s.heap x ox D od) (h : Q (some (.ref D)) { s with toks := s.toks + 1 }) :
    wpAny (model prog w) A (getAttr? (.ref x) "__class__") Q E s := by
  have hf := find_cls (od := od) (by obtain ⟨c0, e0, _⟩ := any_some C.hd; rw [e0]; rfl) C
  obtain ⟨hp, g, dr, tk, os⟩ := s
  have A0 := I.type (M := model prog w); have A1 := looks_findIn (M := model prog w) X C.hg; have A2 := looks_findIn (M := model prog w) X C.hk
  have A3 := looks_find (M := model prog w) X I hf; have A4 : Looks (model prog w) hp (isInstance (.ref x) (.type "BaseException")) true := A0.andThen (looks_subIn X C.hs)
  have b0 : (false && onTheHeap (Value.builtin "BaseException.__getattribute__")) = false := rfl
  have b2 : (Value.builtin "BaseException.__getattribute__" == Value.builtin "object.__getattribute__") = false := by decide +kernel
  have b1 : (onTheHeap (Value.ref D) && Value.builtin "BaseException.__getattribute__" == Value.builtin "object.__getattribute__") = false := by rw [b2]; rfl
  unfold getAttr? getAttrBy? getAttrBy
  refine wpAny_bind (wpAny_mkText (wpAny_bind (wpAny_attempt (wpAny_holding (wpAny_bind (A0.at (wpAny_bind (A1.at ?_))))))))
  show wpAny _ _ (if (onTheHeap (Value.ref D) && Value.builtin "BaseException.__getattribute__" == Value.builtin "object.__getattribute__") = true then _ else _) _ _ _
  rw [b1, if_neg Bool.false_ne_true]; unfold getAttrByItsOwn hookBefore
  refine wpAny_bind ?_; rw [if_pos (show onTheHeap (Value.ref D) = true from rfl)]; refine A2.at ?_
  refine wpAny_bind (wpAny_attempt (wpAny_holding ?_)); unfold callGetattribute; rw [b0, if_neg Bool.false_ne_true]; unfold boundAndCalled
  rw [PySem.F.excAttr_ValueError.ga.bind (.ref x)]; refine wpAny_bind (wpAny_pure ?_)
  show wpAny _ _ (call (.builtin "BaseException.__getattribute__") [.ref x, .str "__class__" tk]) _ _ _
  refine wpAny_call (codeAny_call_builtin PySem.F.excAttr_ValueError.ga.plain PySem.F.entry_bexc_ga ?_)
  refine @check_slot (model prog w) _ _ ⟨hp, g, dr, tk + 1, os⟩ "BaseException.__getattribute__" "BaseException" "__getattribute__" (.ref x) [.str "__class__" tk] [] _ (by decide +kernel) (by decide +kernel) A4 (PySem.F.args_bexc_ga (.ref x) (.str "__class__" tk)) ?_
  unfold Builtin.«object.__getattribute__»; refine wpAny_bind (wpAny_of_eq (a := ((Value.ref x : Value), [Value.str "__class__" tk])) (by first | rfl | (simp only [slotArgs]; rfl)) ?_)
  refine wpAny_bind (wpAny_pure (wpAny_bind (A0.at (wpAny_bind (A3.at ?_)))))
  show wpAny _ _ (holding [Value.builtin "object.__class__"] (call (.builtin "getset_descriptor.__get__") [.builtin "object.__class__", .ref x, .ref D]) >>= ret) _ _ _
  refine wpAny_bind (wpAny_holding (wpAny_call (class_get (s := ⟨hp, g, dr, tk + 1, os⟩) (ox := ox) (od := od) X I C.hm ?_))); refine wpAny_pure ?_
  show wpAny _ _ (handedOut (.ref D)) _ _ _; rw [handedOut_of (v := .ref D) rfl]
  first | exact wpAny_pure (wpAny_pure h) | exact wpAny_pure h | exact wpAny_pure (wpAny_bind (wpAny_pure (wpAny_pure h)))
theorem kit_err (C : L2.ExcC K D) : KitX K (.ref x) (.ref D) (fun h => InstAt h x ox D od) := by
  obtain ⟨cd, hc, _⟩ := any_some C.hd
  refine ⟨fun _ _ _ I => I.type, fun M h X _ => ?_, fun h tp dd its n sl X htp => ?_, fun X I k => ask_cls C X I k⟩
  · unfold clsIn at hc
    split at hc
    · rename_i o1 o2 o3 o4 ho
      intro A' Q' E' s' k q; unfold isType loadHead; exact wpAny_bind (wpAny_loadPart (k _ _ (X _ _ ho)) (wpAny_pure q))
    · cases hc
  · refine Bool.eq_false_iff.mpr fun q => ?_
    have e : D = tp := Value.ref.inj (beq_iff_eq.mp q); subst e
    unfold clsIn at hc
    split at hc
    · rename_i o1 o2 o3 o4 ho
      have z := (X _ _ ho).symm.trans htp; cases z
    · cases hc
end
/-- isinstance(e, c), e the caught error at a, of class D, its own dict at dd -/
def rIsD (K : PySem.W.Frag) (D a : Addr) (cls : Value) (d : Option Addr) : List V → Hp → VK → Prop := fun xs H Q => ∃ (c : V) (cv : Value) (b : Bool) (dd : Addr) (fs : List (Str × V)),
  cls = .ref D ∧ xs = [.ref a, c] ∧ (∀ u, RelV c u → u = cv) ∧ kitOne K (.ref D) cv = some b ∧ d = some dd ∧ H dd = some (.xd fs) ∧ Q (.bl b) H
theorem call_isD {X : Cx} {a D : Addr} {oe : Obj} {cls : Value} {d : Option Addr} {pn : List (Addr × Obj)} (C : ExcC X.K D) (hz : Zc cls d oe) (hf : ∃ vs, oe.data = .fields vs) : CallR (X.suite a ((a, oe) :: pn)) (.builtin "isinstance") (rIsD X.K D a cls d) := by
  intro pins s σ H xs us Q I r h
  obtain ⟨c, cv, b, dd, fs, ecl, rfl, hcv, e, ed, ea, q⟩ := h
  subst ecl
  subst ed
  obtain ⟨u1, u2, rfl, r1, r2⟩ := vals2 r
  obtain rfl : u1 = Value.ref a := r1
  have ec := hcv _ r2; subst ec
  obtain ⟨hget, _⟩ := I.pin (a, oe) (List.mem_append_left _ List.mem_cons_self)
  obtain ⟨vs, hv⟩ := hf
  have hx : ObjOk X.prog X.w H s.heap dd (.xd fs) := I.hok dd _ ea
  obtain ⟨mA, hns, hr⟩ := hx
  obtain ⟨od, ho, hl⟩ := lookIn_ns hns
  have J : InstAt s.heap a oe D (some od) := ⟨hget, hz.1, by unfold PySem.W.notCls; rw [hv] <;> rfl, by rw [hz.2]; exact ho⟩
  exact kia_one (kit_err C) I.kIn J e (fun z => nomatch z) fun tk => ⟨.bl b, H, I.kept (t' := tk) fun _ _ z => z, rfl, q⟩
structure NoP (K : PySem.W.Frag) (mg : Str → Option Value) (C fI : Addr) (fd : FuncData) : Prop where
  gC : mg "NoPlace" = some (.ref C)
  oex : OexC K C
  fp : PySem.W.findIn K (.ref C) "place" = some none
  iC : PySem.W.findIn K (.ref C) "__init__" = some (some (.ref fI))
  tI : PySem.W.typeIn K (.ref fI) = some (.type "function")
  F : Fun K "__init__" "NoPlace.__init__" sInit fI fd
  b : Binds K fd ["self", "place"] []
section
variable {P : Program} {w : World} {K : PySem.W.Frag} {mg : Str → Option Value} {base : Heap}
theorem scInit : FnScope ["self", "place"] ["self", "place"] (defScope sInit) := ⟨rfl, rfl, rfl, by decide +kernel, rfl, by decide +kernel, by decide +kernel⟩
def spInit (K : PySem.W.Frag) (C : Addr) : Sp := fun vs H Q _ => ∃ (a : Addr) (v : V), vs = [.ref a, v] ∧ H a = some (exo a C none) ∧ OexC K C ∧ PySem.W.findIn K (.ref C) "place" = some none ∧
  ∀ d, H d = none → d ≠ a → Q .non (upd (upd H d (exd d [("place", v)])) a (exo a C (some d)))
theorem ok_init {f C : Addr} {fd : FuncData} (F : Fun K "__init__" "NoPlace.__init__" sInit f fd) : FnOk P w K mg base CX0 1 f fd ["self", "place"] (spInit K C) := by
  refine F.ok scInit (fun vs H Q E h => ?_) (fun cdv A outer s H vs Q E hr h => ?_)
  · obtain ⟨a, v, rfl, _⟩ := h; rfl
  · obtain ⟨a, v, rfl, ha, o, fp, q⟩ := h
    refine ⟨_, pss_one (ps_ost (pv 0) (pv 1)), ?_⟩
    exact ⟨_, rfl, _, rfl, a, C, rfl, o, fp, .inl ⟨ha, fun dx h1 h2 => q dx h1 h2⟩⟩
/-- raise NoPlace(place): the heap behind it -/
theorem heap_raised {H : Hp} {a d C : Addr} {v : V} (ha : H a = none) (hd : H d = none) (hne : d ≠ a) :
    upd (del (upd (upd (upd H a (exo a C none)) d (exd d [("place", v)])) a (exo a C (some d))) a) d (.xd [("place", v)]) = upd H d (.xd [("place", v)]) := by
  funext b
  by_cases h1 : b = d
  · subst h1; rw [upd_same, upd_same]
  · rw [upd_ne h1, upd_ne h1]
    by_cases h2 : b = a
    · subst h2; rw [del_same, ha]
    · rw [del_ne h2, upd_ne h2, upd_ne h1, upd_ne h2]
theorem raise_np {C : Addr} {v : V} {H : Hp} {Q : XK} (o : OexC K C) (fp : PySem.W.findIn K (.ref C) "place" = some none) (q : ∀ d, H d = none → Q (.ref C) (some d) (upd H d (.xd [("place", v)]))) :
    [v].length ≤ 1000 ∧ ∀ a, H a = none → spInit K C (.ref a :: ([v] ++ [])) (upd H a (exo a C none))
      (fun u H2 => u = .non ∧ ∃ (d : Addr) (fs : List (Str × V)), H2 a = some (exo a C (some d)) ∧ H2 d = some (exd d fs) ∧ H d = none ∧ Q (.ref C) (some d) (upd (del H2 a) d (.xd fs))) (fun _ _ _ => False) := by
  refine ⟨by show 1 ≤ 1000; decide, fun a ha => ⟨a, v, rfl, upd_same, o, fp, fun d h1 hne => ⟨rfl, d, [("place", v)], upd_same, ?_, ?_, ?_⟩⟩⟩
  · rw [upd_ne hne, upd_same]
  · rw [upd_ne hne] at h1; exact h1
  · rw [upd_ne hne] at h1
    rw [heap_raised ha h1 hne]; exact q d h1
/-! ### what isinstance says of a node -/
theorem ty_txt {H : Hp} {z : Str} : TyX K H (.str z) (.type "str") := .base (.str z)
theorem ty_tup {H : Hp} {a : Addr} {xs : List V} (h : H a = some (.tup xs)) : TyX K H (.ref a) (.type "tuple") := .base (.tup h)
theorem isi_w {H : Hp} {v : V} {t : T} (h : IsT H v t) : ∃ ty, TyX K H v ty ∧ PySem.W.kitOne K ty (.type "str") = some (isTxt t) := by
  cases h with
  | txt z => exact ⟨_, ty_txt, show PySem.W.kitOne K (.type "str") (.type "str") = some true from kit_ty (by decide +kernel)⟩
  | el h1 h2 hl hi => exact ⟨_, ty_tup h1, show PySem.W.kitOne K (.type "tuple") (.type "str") = some false from kit_ty (by decide +kernel)⟩
/-! ### node_at -/
def spNode (C : Addr) : Sp := fun vs H Q E => ∃ (t : T) (v : V) (p : Addr) (ns : List Int), vs = [v, .ref p] ∧ IsT H v t ∧ H p = some (.tup (ns.map V.int)) ∧
  (∀ u x, atP t ns = some u → IsT H x u → Q x H) ∧ (atP t ns = none → ∀ d, H d = none → E (.ref C) (some d) (upd H d (.xd [("place", .ref p)])))
theorem scNode : FnScope ["tree", "place", "node", "index"] ["tree", "place"] (defScope sNode) := ⟨rfl, rfl, rfl, by decide +kernel, rfl, by decide +kernel, by decide +kernel⟩
theorem ok_node {f C fI : Addr} {fd fdI : FuncData} (B : Blt mg) (N : NoP K mg C fI fdI) (F : Fun K "node_at" "node_at" sNode f fd) : FnOk P w K mg base (L2.CX P w) 3 f fd ["tree", "place"] (spNode C) := by
  have GI : FnOk P w K mg base CX0 1 fI fdI ["self", "place"] (spInit K C) := ok_init N.F
  refine F.okX scNode (fun vs H Q E h => ?_) (fun cdv A outer s H vs Q E hr h => ?_)
  · obtain ⟨t, v, p, ns, rfl, _⟩ := h; rfl
  · obtain ⟨t, v, p, ns, rfl, ht, hp, q, e⟩ := h
    refine ⟨_, pss_cons (ps_set (i := 2) scNode.nd rfl (.inl rfl) (pv 0))
      (pss_cons (ps_for (passes_of rfl) rfl (pi_tup (pv 1)) (pg_name (i := 3) scNode.nd rfl (.inl rfl))
        (pss_cons (ps_if (PW.pt (pw_or (pt_val (pe_callB call_isi (by rfl) B.isi (by decide +kernel) (pa_cons (pv 2) (pa_cons (pe_bltn (v := .ty "str") (by rfl) B.str (by decide +kernel) rfl) pa_nil))))
            (pw_or1 (pt_not (pt_chain op_le op_lt pe_int (pv 3) (pe_callB call_len (by rfl) B.len PySem.boot_len (pa_cons (pe_ix ix_tup (pv 2) pe_int (fun _ _ => rfl)) pa_nil)))))))
          (pss_one (ps_raise rfl (takes_of rfl rfl rfl rfl) (pmk_oex N.oex N.iC N.tI GI hr N.b .nil pass0 (by rfl) N.gC (pa_cons (pv 1) pa_nil)))) pss_nil)
        (pss_one (ps_set (i := 2) scNode.nd rfl (.inl rfl) (pe_ix ix_tup (pe_ix ix_tup (pv 2) pe_int (fun _ _ => rfl)) (pv 3) (fun _ _ => rfl))))))
      (pss_one (ps_ret (pv 2)))), ?_⟩
    refine ⟨v, rfl, .ref p, rfl, p, rfl, ⟨_, SqT.of hp⟩, for_tup (K := K) (a := p) (xs := ns.map V.int) (fun i σ H' => ∃ (x : V) (u : T) (y : Option V), σ = [some v, some (.ref p), some x, y] ∧ IsT H x u ∧ atP u (ns.drop i) = atP t ns ∧ H' = H)
      ⟨v, t, none, rfl, ht, rfl, rfl⟩ (fun i σ H' _ ⟨_, _, _, _, _, _, eH⟩ => by subst eH; exact SqT.of hp) ?_ ?_⟩
    · rintro i y0 σ H' hi ⟨x, u, y, rfl, hx, hu, rfl⟩
      rw [List.getElem?_map] at hi
      cases en : ns[i]? with
      | none => rw [en] at hi; cases hi
      | some z =>
        rw [en] at hi; cases hi
        have ed : ns.drop i = z :: ns.drop (i + 1) := by
          have hlt := (List.getElem?_eq_some_iff.mp en).1
          rw [List.drop_eq_getElem_cons hlt]
          have := (List.getElem?_eq_some_iff.mp en).2; rw [this]
        rw [ed] at hu
        simp only [atP] at hu
        obtain ⟨ty, w1, w2⟩ := isi_w (K := K) hx
        refine ⟨x, rfl, x, .ty "str", ty, .type "str", isTxt u, rfl, .ty "str", w1, w2, _, rfl, ?_⟩
        cases hx with
        | txt zt =>
          refine iteT (iteT ?_)
          have hn : atP t ns = none := by rw [← hu]; simp [step1, kids]
          exact ⟨_, rfl, raise_np N.oex N.fp fun d hd => e hn d hd⟩
        | @el a b k m vs cs h1 h2 hl hiT =>
          refine iteF ⟨_, rfl, 0, z, rfl, rfl, _, rfl, ?_⟩
          by_cases h0 : 0 ≤ z
          · rw [decide_eq_true h0]
            refine iteT ⟨.ref a, rfl, a, _, 2, .ref b, rfl, rfl, SqT.of h1, atI_nat (j := 2) rfl, _, vs.length, rfl, .inr ⟨vs, SqT.of h2, rfl⟩, z, (vs.length : Int), rfl, rfl, _, rfl, ?_⟩
            by_cases h3 : z < (vs.length : Int)
            · rw [decide_eq_true h3]
              refine iteF ?_
              have hlt : z.toNat < vs.length := by omega
              have hc : cs[z.toNat]? = some (cs[z.toNat]'(by omega)) := by simp
              have hs : step1 (.el k m cs) z = some (cs[z.toNat]'(by omega)) := by simp only [step1, kids]; rw [if_pos h0]; exact hc
              refine ⟨.ref a, rfl, a, _, 2, .ref b, rfl, rfl, SqT.of h1, atI_nat (j := 2) rfl, .int z, rfl, b, vs, z, vs[z.toNat], rfl, rfl, SqT.of h2, at_of (j := z.toNat) (by omega) (by simp [hlt]), ?_⟩
              refine ⟨vs[z.toNat], _, _, rfl, hiT z.toNat _ _ (by simp [hlt]) hc, ?_, rfl⟩
              rw [hs] at hu; simpa using hu
            · rw [decide_eq_false h3]
              refine iteT ?_
              have hn : atP t ns = none := by
                rw [← hu]; simp only [step1, kids]; rw [if_pos h0]
                have : cs[z.toNat]? = none := by rw [List.getElem?_eq_none_iff]; omega
                rw [this]; rfl
              exact ⟨_, rfl, raise_np N.oex N.fp fun d hd => e hn d hd⟩
          · rw [decide_eq_false h0]
            refine iteF ⟨_, rfl, iteT ?_⟩
            have hn : atP t ns = none := by rw [← hu]; simp only [step1, kids]; rw [if_neg h0]; rfl
            exact ⟨_, rfl, raise_np N.oex N.fp fun d hd => e hn d hd⟩
    · rintro σ H' ⟨x, u, y, rfl, hx, hu, rfl⟩
      have ed : ns.drop (ns.map V.int).length = [] := by rw [List.length_map]; simp
      rw [ed] at hu
      exact ⟨x, rfl, q u x (by rw [← hu]; rfl) hx⟩
end
theorem Same.tups {H H' : Hp} (s : Same H H') : SameT H H' := fun a xs e => s _ _ e
theorem dp_ints {K : PySem.W.Frag} {H : Hp} : ∀ ns : List Int, DpAll K H (ns.map V.int) (ns.map PyData.int)
  | [] => .nil
  | n :: ns => .cons (.int n) (dp_ints ns)
theorem lay_ints : ∀ ns : List Int, PyData.canLayAll0 (ns.map PyData.int) = true
  | [] => by simp [PyData.canLayAll0]
  | n :: ns => by simp [PyData.canLayAll0, PyData.canLay0, lay_ints ns]
theorem deep_ints : ∀ ns : List Int, PyData.depthAll (ns.map PyData.int) ≤ 1
  | [] => by simp [PyData.depthAll]
  | n :: ns => by
    have h := deep_ints ns
    simp only [List.map_cons, PyData.depthAll, PyData.depth]; omega
theorem shaped_ints (ns : List Int) : SeqAt.shaped (.tuple (ns.map PyData.int)) = true := by
  have h := deep_ints ns
  show ((PyData.canLay0 (.tuple (ns.map PyData.int))) && decide ((PyData.depth (.tuple (ns.map PyData.int))) ≤ 64)) = true
  rw [Bool.and_eq_true]
  refine ⟨by simp only [PyData.canLay0]; exact lay_ints ns, decide_eq_true ?_⟩
  simp only [PyData.depth]; omega
theorem eqv_unit (ns : List Int) : PyData.eqv (.tuple (ns.map PyData.int)) (.tuple []) = decide (ns = []) := by
  cases ns with
  | nil => simp [PyData.eqv, PyData.eqvAll]
  | cons n ns => simp [PyData.eqv, PyData.eqvAll]
theorem six_m1 (n d : Nat) : HT.sIx n d (some (-1)) = n - 1 := by
  show (if (-1 : Int) < 0 then ((-1 : Int) + (n : Int)).toNat else min (-1 : Int).toNat n) = n - 1
  rw [if_pos (by decide)]; omega
theorem cut_last (ms : List Int) (z : Int) : cutV ((ms ++ [z]).map V.int) none (some (-1)) = ms.map V.int := by
  unfold cutV
  have e1 : HT.sIx ((ms ++ [z]).map V.int).length ((ms ++ [z]).map V.int).length (some (-1)) = ms.length := by
    rw [six_m1]; simp
  rw [e1, HT.sIx_none]
  simp
theorem cut_whole (ms : List Int) (z : Int) : ¬ (HT.sIx ((ms ++ [z]).map V.int).length 0 none = 0 ∧ HT.sIx ((ms ++ [z]).map V.int).length ((ms ++ [z]).map V.int).length (some (-1)) = ((ms ++ [z]).map V.int).length) := by
  intro h
  have e1 : HT.sIx ((ms ++ [z]).map V.int).length ((ms ++ [z]).map V.int).length (some (-1)) = ms.length := by
    rw [six_m1]; simp
  rw [e1] at h
  have := h.2
  simp at this
section
variable {P : Program} {w : World} {K : PySem.W.Frag} {mg : Str → Option Value} {base : Heap}
/-! ### element_at -/
def spElem (C : Addr) : Sp := fun vs H Q E => ∃ (t : T) (v : V) (p : Addr) (ns : List Int), vs = [v, .ref p] ∧ IsT H v t ∧ H p = some (.tup (ns.map V.int)) ∧
  (∀ k m cs x, atP t ns = some (.el k m cs) → IsT H x (.el k m cs) → Q x H) ∧ ((∀ k m cs, atP t ns ≠ some (.el k m cs)) → ∀ d, H d = none → E (.ref C) (some d) (upd H d (.xd [("place", .ref p)])))
theorem scElem : FnScope ["tree", "place", "node"] ["tree", "place"] (defScope sElem) := ⟨rfl, rfl, rfl, by decide +kernel, rfl, by decide +kernel, by decide +kernel⟩
theorem ok_elem {f fN C fI : Addr} {fd fdN fdI : FuncData} (B : Blt mg) (N : NoP K mg C fI fdI) (F : Fun K "element_at" "element_at" sElem f fd) (FN : Fun K "node_at" "node_at" sNode fN fdN) (bN : Binds K fdN ["tree", "place"] []) (gN : mg "node_at" = some (.ref fN)) :
    FnOk P w K mg base (L2.CX P w) 4 f fd ["tree", "place"] (spElem C) := by
  have GI : FnOk P w K mg base CX0 1 fI fdI ["self", "place"] (spInit K C) := ok_init N.F
  have GN : FnOk P w K mg base (L2.CX P w) 3 fN fdN ["tree", "place"] (spNode C) := ok_node B N FN
  refine F.okX scElem (fun vs H Q E h => ?_) (fun cdv A outer s H vs Q E hr h => ?_)
  · obtain ⟨t, v, p, ns, rfl, _⟩ := h; rfl
  · obtain ⟨t, v, p, ns, rfl, ht, hp, q, e⟩ := h
    have hr2 : Room 2 _ := hr.mono (by decide)
    refine ⟨_, pss_cons (ps_set (i := 2) scElem.nd rfl (.inl rfl) (pe_call GN hr (by rfl) gN FN.kp bN .nil (passes_call (takes_of rfl rfl rfl rfl) (fun _ _ _ _ h => h)) (pa_cons (pv 0) (pa_cons (pv 1) pa_nil))))
      (pss_cons (ps_if (pt_val (pe_callB call_isi (by rfl) B.isi (by decide +kernel) (pa_cons (pv 2) (pa_cons (pe_bltn (v := .ty "str") (by rfl) B.str (by decide +kernel) rfl) pa_nil))))
        (pss_one (ps_raise rfl (takes_of rfl rfl rfl rfl) (pmk_oex N.oex N.iC N.tI GI hr2 N.b .nil pass0 (by rfl) N.gC (pa_cons (pv 1) pa_nil)))) pss_nil)
      (pss_one (ps_ret (pv 2)))), ?_⟩
    refine ⟨v, rfl, .ref p, rfl, t, v, p, ns, rfl, ht, hp, fun u x hu hx => ?_, fun hn d hd => e (fun k m cs hk => by rw [hn] at hk; cases hk) d hd⟩
    obtain ⟨ty, w1, w2⟩ := isi_w (K := K) hx
    refine ⟨x, rfl, x, .ty "str", ty, .type "str", isTxt u, rfl, .ty "str", w1, w2, _, rfl, ?_⟩
    cases hx with
    | txt z =>
      refine iteT ?_
      exact ⟨_, rfl, raise_np N.oex N.fp fun d hd => e (fun k m cs hk => by rw [hu] at hk; cases hk) d hd⟩
    | el h1 h2 hl hi =>
      refine iteF ?_
      exact ⟨_, rfl, q _ _ _ _ hu (.el h1 h2 hl hi)⟩
/-! ### elder_of -/
def spElder (C : Addr) : Sp := fun vs H Q E => ∃ (t : T) (v : V) (p : Addr) (ns : List Int), vs = [v, .ref p] ∧ IsT H v t ∧ sz t ≤ 1000 ∧ H p = some (.tup (ns.map V.int)) ∧
  (ns = [] → isTxt t = false → ∀ H', Same H H' → Q .non H') ∧
  (∀ (ms : List Int) (i : Nat) k m cs c, ns = ms ++ [(i : Int)] → atP t ms = some (.el k m cs) → cs[i]? = some c → isTxt c = false →
    (elder cs i = none → ∀ H', Same H H' → Q .non H') ∧ (∀ j, elder cs i = some j → ∀ H' a, Same H H' → H' a = some (.tup ((ms ++ [(j : Int)]).map V.int)) → Q (.ref a) H')) ∧
  ((∀ k m cs, atP t ns ≠ some (.el k m cs)) → ∀ d, H d = none → E (.ref C) (some d) (upd H d (.xd [("place", .ref p)])))
theorem scElder : FnScope ["tree", "place", "above", "siblings", "index"] ["tree", "place"] (defScope sElder) := ⟨rfl, rfl, rfl, by decide +kernel, rfl, by decide +kernel, by decide +kernel⟩
theorem elder_step {cs : List T} {n : Nat} {c : T} (h : cs[n]? = some c) : elder cs (n + 1) = if isTxt c = true then elder cs n else some n := by
  simp only [elder, h]
  cases c <;> simp [isTxt]
theorem ok_elder {f fN fE C fI : Addr} {fd fdN fdE fdI : FuncData} (B : Blt mg) (N : NoP K mg C fI fdI) (F : Fun K "elder_of" "elder_of" sElder f fd) (FN : Fun K "node_at" "node_at" sNode fN fdN) (bN : Binds K fdN ["tree", "place"] []) (gN : mg "node_at" = some (.ref fN))
    (FE : Fun K "element_at" "element_at" sElem fE fdE) (bE : Binds K fdE ["tree", "place"] []) (gE : mg "element_at" = some (.ref fE)) :
    FnOk P w K mg base (L2.CX P w) 5 f fd ["tree", "place"] (spElder C) := by
  have GN : FnOk P w K mg base (L2.CX P w) 3 fN fdN ["tree", "place"] (spNode C) := ok_node B N FN
  have GE : FnOk P w K mg base (L2.CX P w) 4 fE fdE ["tree", "place"] (spElem C) := ok_elem B N FE FN bN gN
  refine F.okX scElder (fun vs H Q E h => ?_) (fun cdv A outer s H vs Q E hr h => ?_)
  · obtain ⟨t, v, p, ns, rfl, _⟩ := h; rfl
  · obtain ⟨t, v, p, ns, rfl, ht, hsz, hp, q0, q1, e⟩ := h
    have hr3 : Room 3 _ := hr.mono (by decide)
    have hr4 : Room 4 _ := hr
    refine ⟨_, pss_cons (ps_expr (pe_call GE hr4 (by rfl) gE FE.kp bE .nil (passes_call (takes_of rfl rfl rfl rfl) (fun _ _ _ _ h => h)) (pa_cons (pv 0) (pa_cons (pv 1) pa_nil))))
      (pss_cons (ps_if (pt_cmpR (op_eqD hr.units) (pv 1) (pe_tup pa_nil) (nomark _)) (pss_one (ps_ret pe_non)) pss_nil)
      (pss_cons (ps_set (i := 2) scElder.nd rfl (.inl rfl) (pe_slice sl_tupA (pv 1) po_none (po_some (pe_un un_neg pe_int))))
      (pss_cons (ps_set (i := 3) scElder.nd rfl (.inl rfl) (pe_ix ix_tup (pe_call GN hr3 (by rfl) gN FN.kp bN .nil (passes_call (takes_of rfl rfl rfl rfl) (fun _ _ _ _ h => h)) (pa_cons (pv 0) (pa_cons (pv 2) pa_nil))) pe_int (fun _ _ => rfl)))
      (pss_cons (ps_for (passes_of rfl) rfl (pi_range3 rfl B.range (pa_cons (pe_op op_sub (pe_ix ix_tup (pv 1) (pe_un un_neg pe_int) (fun _ _ => rfl)) pe_int) (pa_cons (pe_un un_neg pe_int) (pa_cons (pe_un un_neg pe_int) pa_nil)))) (pg_name (i := 4) scElder.nd rfl (.inl rfl))
        (pss_one (ps_if (pt_not (pt_val (pe_callB call_isi (by rfl) B.isi (by decide +kernel) (pa_cons (pe_ix ix_tup (pv 3) (pv 4) (fun _ _ => rfl)) (pa_cons (pe_bltn (v := .ty "str") (by rfl) B.str (by decide +kernel) rfl) pa_nil)))))
          (pss_one (ps_ret (pe_op op_catA (pv 2) (pe_tup (pa_cons (pv 4) pa_nil))))) pss_nil)))
      (pss_one (ps_ret pe_non)))))), ?_⟩
    refine ⟨v, rfl, .ref p, rfl, t, v, p, ns, rfl, ht, hp, fun k m ds x hu hx => ?_, fun hn d hd => e hn d hd⟩
    -- place == ()
    refine ⟨.ref p, rfl, Nat.zero_le _, fun o no => ?_⟩
    have s1 : Same H (upd H o (.tup [])) := same_new no
    refine ⟨.tuple (ns.map PyData.int), .tuple [], .tup (SqT.of (s1 _ _ hp)) (dp_ints ns), .tup (SqT.of upd_same) .nil, shaped_ints ns, shaped_ints [], _, rfl, ?_⟩
    rw [eqv_unit]
    by_cases hne : ns = []
    · rw [decide_eq_true hne]
      refine iteT ?_
      subst hne
      simp only [atP] at hu
      exact q0 rfl (by cases hu; rfl) _ s1
    · rw [decide_eq_false hne]
      refine iteF ?_
      obtain ⟨ms, z, rfl⟩ : ∃ ms z, ns = ms ++ [z] := ⟨ns.dropLast, ns.getLast hne, (List.dropLast_concat_getLast hne).symm⟩
      rw [atP_snoc] at hu
      cases ea : atP t ms with
      | none => rw [ea] at hu; cases hu
      | some u =>
        rw [ea] at hu
        have hstep : step1 u z = some (.el k m ds) := hu
        cases u with
        | txt y => simp [step1, kids] at hstep
        | el k1 m1 cs =>
          simp only [step1, kids] at hstep
          by_cases hz0 : 0 ≤ z
          · rw [if_pos hz0] at hstep
            have ez : z = ((z.toNat : Nat) : Int) := by omega
            generalize hi : z.toNat = i at hstep ez
            subst ez
            have hlt := (List.getElem?_eq_some_iff.mp hstep).1
            have hcs : cs.length ≤ 1000 := by
              have h1 := atP_sz ea
              have h2 := szs_len cs
              simp only [sz] at h1; omega
            obtain ⟨qn, qs⟩ := q1 ms i k1 m1 cs _ rfl ea hstep rfl
            -- above
            refine ⟨.ref p, rfl, 1, rfl, -1, rfl, p, _, rfl, SqT.of (s1 _ _ hp), fun hw => absurd hw (cut_whole ms _), fun _ ab nab => ?_⟩
            rw [cut_last]
            have s2 : Same H (upd (upd H o (.tup [])) ab (.tup (ms.map V.int))) := s1.trans (same_new nab)
            generalize hH2 : upd (upd H o (.tup [])) ab (.tup (ms.map V.int)) = H2 at s2
            have eab : H2 ab = some (.tup (ms.map V.int)) := by rw [← hH2]; exact upd_same
            -- siblings
            refine ⟨v, rfl, .ref ab, rfl, t, v, ab, ms, rfl, ht.mono (Same.tups s2), eab, fun u x hu2 hx2 => ?_, fun hn => by rw [ea] at hn; cases hn⟩
            rw [ea] at hu2; cases hu2
            obtain ⟨a, b, ws, rfl, h1, h2, hall⟩ := hx2.el_inv
            refine ⟨a, _, 2, .ref b, rfl, rfl, SqT.of h1, atI_nat (j := 2) rfl, ?_⟩
            -- the loop
            refine ⟨.ref p, rfl, 1, rfl, p, _, -1, .int (i : Int), rfl, rfl, SqT.of (s2 _ _ hp), by rw [List.map_append]; exact atI_last _ _, (i : Int), 1, rfl, rfl, 1, rfl, 1, rfl, (i : Int) - 1, -1, -1, _, rfl, RgC.neg (by omega) (by omega) (by decide) (by decide), ?_⟩
            have en : ((i : Int) - 1 - -1).toNat = i := by omega
            rw [en]
            refine for_rangeC (lo := (i : Int) - 1) (c := -1) (n := i) (fun n σ H' => ∃ y, σ = [some v, some (.ref p), some (.ref ab), some (.ref b), y] ∧ elder cs (i - n) = elder cs i ∧ H' = H2) ⟨none, rfl, rfl, rfl⟩ ?_ ?_
            · rintro n σ H' hn ⟨y, rfl, he, rfl⟩
              have ei : (i : Int) - 1 + (n : Nat) * (-1) = ((i - n - 1 : Nat) : Int) := by omega
              rw [ei]
              have hc : cs[i - n - 1]? = some (cs[i - n - 1]'(by omega)) := by simp
              obtain ⟨xc, hxc, hT⟩ := hall.get hc
              obtain ⟨ty, w1, w2⟩ := isi_w (K := K) hT
              refine ⟨.ref b, rfl, .int ((i - n - 1 : Nat) : Int), rfl, b, ws, _, xc, rfl, rfl, SqT.of h2, atI_nat hxc, xc, .ty "str", ty, .type "str", _, rfl, .ty "str", w1, w2, _, rfl, ?_⟩
              have est : elder cs (i - n) = if isTxt (cs[i - n - 1]'(by omega)) = true then elder cs (i - n - 1) else some (i - n - 1) := by
                have := elder_step hc
                rw [show i - n - 1 + 1 = i - n by omega] at this; exact this
              cases et : isTxt (cs[i - n - 1]'(by omega)) with
              | true =>
                rw [et, if_pos rfl] at est
                refine iteF ⟨some (.int ((i - n - 1 : Nat) : Int)), rfl, ?_, rfl⟩
                rw [show i - (n + 1) = i - n - 1 by omega, ← est]; exact he
              | false =>
                rw [et, if_neg Bool.false_ne_true, he] at est
                refine iteT ?_
                refine ⟨.ref ab, rfl, _, rfl, (by show 1 ≤ sizeLine; decide), fun j nj => ?_⟩
                have s3 : Same H' (upd H' j (.tup [.int ((i - n - 1 : Nat) : Int)])) := same_new nj
                refine ⟨ab, j, _, _, rfl, rfl, SqT.of (s3 _ _ eab), SqT.of upd_same, ?_, fun h0 => ?_, fun _ h0 => (by cases h0), fun _ _ l nl => ?_⟩
                · have := atP_sz ea
                  simp only [List.length_map, List.length_singleton]
                  exact Nat.le_of_lt (small1000 (by have := sz_pos (.el k1 m1 cs); omega))
                · refine qs _ est _ j (s2.trans s3) ?_
                  rw [upd_same, List.map_append, h0]; rfl
                · refine qs _ est _ l (s2.trans (s3.trans (same_new nl))) ?_
                  rw [upd_same, List.map_append]; rfl
            · rintro σ H' ⟨y, rfl, he, rfl⟩
              rw [Nat.sub_self] at he
              exact qn he.symm _ s2
          · rw [if_neg hz0] at hstep; cases hstep
end

end K09

set_option maxRecDepth 100000
set_option maxHeartbeats 4000000
namespace K09
open PySem PySem.Spec PyProof.Rows L2
/-! ### an attribute among the targets -/
theorem pg_att {X : Cx} {o : Expr} {f : Str} {to : TE} {pos : Pos} (ho : PE X o to)
    (ha : ∀ v, assign (.Attribute o f pos) X.env v = (do
      let ov ← holding [v] (eval o X.env)
      standAt pos.atName
      holding [v, ov] (setAttr ov f v)
      release [v, ov] []) := by intro _; rfl) :
    PG X (.Attribute o f pos) (fun v σ H Q => to σ H fun x H1 => ∃ a C dx fs, x = .ref a ∧ H1 a = some (.ins C dx fs) ∧ Cls X.K C ∧ NoAttr X.K C f ∧ fs.length < 1000 ∧ Q σ (upd H1 a (.ins C dx (putF f v fs)))) := by
  refine ⟨fun pins s σ H v u Q I r h => ?_⟩
  rw [ha]
  refine wpAny_bind (wpAny_holding (thn (ho.run pins s σ H _ I h) fun ov s1 ⟨x, H1, I1, r1, a, C, dx, fs, ex, ea, c, n, l, q⟩ => ?_))
  subst ex
  obtain rfl : ov = Value.ref a := r1
  refine wpAny_bind (wpAny_standAt (wpAny_bind (wpAny_holding (setattr_ok I1 ea c n l r fun s3 I3 => ?_))))
  exact wpAny_release ⟨σ, _, I3, q⟩
/-! ### places -/
def PlacesAt (H : Hp) (us : List V) (ps : List (List Int)) : Prop := us.length = ps.length ∧ ∀ (i : Nat) (v : V) (q : List Int), us[i]? = some v → ps[i]? = some q → ∃ b, v = .ref b ∧ H b = some (.tup (q.map V.int))
theorem PlacesAt.same {H H' : Hp} {us : List V} {ps : List (List Int)} (h : PlacesAt H us ps) (s : Same H H') : PlacesAt H' us ps :=
  ⟨h.1, fun i v q a b => by obtain ⟨t, e, ht⟩ := h.2 i v q a b; exact ⟨t, e, s _ _ ht⟩⟩
theorem PlacesAt.nil {H : Hp} : PlacesAt H [] [] := ⟨rfl, fun i v q h => by simp at h⟩
theorem PlacesAt.one {H : Hp} {b : Addr} {q : List Int} (h : H b = some (.tup (q.map V.int))) : PlacesAt H [.ref b] [q] := by
  refine ⟨rfl, fun i v r a c => ?_⟩
  match i with
  | 0 => simp at a c; subst a c; exact ⟨b, rfl, h⟩
  | i + 1 => simp at a
theorem PlacesAt.snoc {H : Hp} {vs : List V} {xs : List (List Int)} {b : Addr} {q : List Int} (h : PlacesAt H vs xs) (ht : H b = some (.tup (q.map V.int))) : PlacesAt H (vs ++ [.ref b]) (xs ++ [q]) := by
  obtain ⟨hl, hi⟩ := h
  refine ⟨by rw [List.length_append, List.length_append, hl]; rfl, fun i u y a c => ?_⟩
  by_cases h : i < vs.length
  · rw [List.getElem?_append_left h] at a
    rw [List.getElem?_append_left (by omega)] at c
    exact hi i u y a c
  · have h2 := (List.getElem?_eq_some_iff.mp a).1
    rw [List.length_append, List.length_singleton] at h2
    obtain rfl : i = vs.length := by omega
    rw [List.getElem?_append_right (Nat.le_refl _), Nat.sub_self] at a
    rw [List.getElem?_append_right (by omega), hl, Nat.sub_self] at c
    cases a; cases c
    exact ⟨b, rfl, ht⟩
theorem PlacesAt.get {H : Hp} {us : List V} {ps : List (List Int)} {i : Nat} {v : V} (h : PlacesAt H us ps) (hv : us[i]? = some v) : ∃ q b, ps[i]? = some q ∧ v = .ref b ∧ H b = some (.tup (q.map V.int)) := by
  have hi := (List.getElem?_eq_some_iff.mp hv).1
  have hq : ps[i]? = some (ps[i]'(by have := h.1; omega)) := List.getElem?_eq_getElem _
  obtain ⟨b, e, hb⟩ := h.2 i v _ hv hq
  exact ⟨_, b, hq, e, hb⟩
theorem snoc_of {ns : List Int} (h : ns ≠ []) : ∃ ms i, ns = ms ++ [i] := ⟨ns.dropLast, ns.getLast h, (List.dropLast_concat_getLast h).symm⟩
/-- an element that is no root: its parent -/
theorem up_el {t u : T} {ms : List Int} {i : Int} (h : atP t (ms ++ [i]) = some u) : ∃ k m cs j, atP t ms = some (.el k m cs) ∧ i = ((j : Nat) : Int) ∧ cs[j]? = some u := by
  rw [atP_snoc] at h
  cases e : atP t ms with
  | none => rw [e] at h; cases h
  | some x =>
    rw [e] at h
    have h : step1 x i = some u := h
    cases x with
    | txt z => simp [step1, kids] at h
    | el k m cs =>
      simp only [step1, kids] at h
      by_cases h0 : 0 ≤ i
      · rw [if_pos h0] at h
        exact ⟨k, m, cs, i.toNat, rfl, by omega, h⟩
      · rw [if_neg h0] at h; cases h
theorem elder_el {cs : List T} : ∀ {n j : Nat}, elder cs n = some j → ∃ k m ds, cs[j]? = some (.el k m ds)
  | 0, j, h => by cases h
  | n + 1, j, h => by
    unfold elder at h
    split at h
    · cases h
      rename_i k m ds e
      exact ⟨k, m, ds, e⟩
    · exact elder_el (n := n) h
theorem eldP_nil (t : T) : eldP t [] = none := rfl
theorem eldP_snoc {t : T} {ms : List Int} {i : Nat} {k m : Str} {cs : List T} (h : atP t ms = some (.el k m cs)) : eldP t (ms ++ [(i : Int)]) = (elder cs i).map fun (j : Nat) => ms ++ [(j : Int)] := by
  unfold eldP
  rw [List.getLast?_concat, List.dropLast_concat]
  simp only [h, Int.toNat_natCast]
theorem take_el {t u : T} {ns : List Int} (h : atP t ns = some u) {n : Nat} (hn : n < ns.length) : ∃ k m cs, atP t (ns.take n) = some (.el k m cs) := by
  have h0 : atP t (ns.take n ++ ns.drop n) = some u := by rw [List.take_append_drop]; exact h
  rw [atP_append] at h0
  cases e : atP t (ns.take n) with
  | none => rw [e] at h0; cases h0
  | some x =>
    rw [e] at h0
    have h0 : atP x (ns.drop n) = some u := h0
    cases hd : ns.drop n with
    | nil => rw [List.drop_eq_nil_iff] at hd; omega
    | cons i r =>
      rw [hd] at h0
      cases x with
      | txt z => simp [atP, step1, kids] at h0
      | el k m cs => exact ⟨k, m, cs, rfl⟩
theorem linked_el {t : T} {ns : List Int} {k m : Str} {cs : List T} (h : atP t ns = some (.el k m cs)) (l : Nat) : ∀ q ∈ linked t ns l, ∃ k m cs, atP t q = some (.el k m cs) := by
  intro q hq
  unfold linked at hq
  by_cases h2 : l = 2
  · rw [if_pos h2] at hq
    cases e : eldP t ns with
    | none => rw [e] at hq; simp at hq
    | some ms =>
      rw [e] at hq
      simp at hq; subst hq
      by_cases hn : ns = []
      · subst hn; rw [eldP_nil] at e; cases e
      · obtain ⟨qs, i, rfl⟩ := snoc_of hn
        obtain ⟨k1, m1, cs1, j, e1, rfl, e3⟩ := up_el h
        rw [eldP_snoc e1] at e
        simp only [Option.map_eq_some_iff] at e
        obtain ⟨j', e4, rfl⟩ := e
        obtain ⟨k2, m2, ds, e5⟩ := elder_el e4
        exact ⟨k2, m2, ds, by rw [atP_snoc, e1, Option.bind_some, step1_nat]; exact e5⟩
  · rw [if_neg h2] at hq
    by_cases hn : ns = []
    · rw [if_pos hn] at hq; simp at hq
    · rw [if_neg hn] at hq
      by_cases h1 : l = 1
      · rw [if_pos h1] at hq
        simp at hq; subst hq
        obtain ⟨qs, i, rfl⟩ := snoc_of hn
        obtain ⟨k1, m1, cs1, j, e1, _, _⟩ := up_el h
        rw [List.dropLast_concat]; exact ⟨k1, m1, cs1, e1⟩
      · rw [if_neg h1] at hq
        obtain ⟨n, hn2, rfl⟩ := List.mem_map.mp hq
        exact take_el h (List.mem_range.mp hn2)
theorem linked_len {t : T} {ns : List Int} {l : Nat} : (linked t ns l).length ≤ ns.length + 1 := by
  unfold linked
  split
  · split <;> simp
  · split
    · simp
    · split
      · simp
      · simp
theorem inV_two (z a b : Str) : inV (.str z) [.str a, .str b] = (decide (z = a) || decide (z = b)) := by
  show ((a == z) || ((b == z) || false)) = _
  rw [Bool.or_false, eqStr, eqStr]
  congr 1 <;> exact decide_eq_decide.mpr ⟨fun h => h.symm, fun h => h.symm⟩
theorem cut_takeI (ns : List Int) {n : Nat} (h : n < ns.length) : cutV (ns.map V.int) none (some (n : Int)) = (ns.take n).map V.int ∧ ¬ (HT.sIx (ns.map V.int).length 0 none = 0 ∧ HT.sIx (ns.map V.int).length (ns.map V.int).length (some (n : Int)) = (ns.map V.int).length) := by
  have e1 : HT.sIx (ns.map V.int).length (ns.map V.int).length (some (n : Int)) = n := by
    rw [HT.sIx_nat, List.length_map, Nat.min_eq_left (by omega)]
  refine ⟨?_, fun hw => ?_⟩
  · unfold cutV
    rw [e1, HT.sIx_none, List.drop_zero, Nat.sub_zero, List.map_take]
  · rw [e1] at hw
    have := hw.2
    rw [List.length_map] at this; omega
/-- a Pattern at p -/
def PatAt (CP : Addr) (H : Hp) (p : Addr) (ts : List Tst) (ls : List Nat) : Prop := ∃ dx fs a b, H p = some (.ins CP dx fs) ∧ fs.lookup ("tests" : Str) = some (.ref a) ∧ fs.lookup ("links" : Str) = some (.ref b) ∧ fs.lookup ("_reaches" : Str) = none ∧ Parts H a b ts ls
theorem PatAt.same {CP : Addr} {H H' : Hp} {p : Addr} {ts : List Tst} {ls : List Nat} (h : PatAt CP H p ts ls) (s : Same H H') : PatAt CP H' p ts ls := by
  obtain ⟨dx, fs, a, b, h1, h2, h3, h4, h5⟩ := h
  exact ⟨dx, fs, a, b, s _ _ h1, h2, h3, h4, h5.same s⟩
structure Txt (K : PySem.W.Frag) (mg : Str → Option Value) (CP : Addr) : Prop where
  cl : Cls K CP
  nT : NoAttr K CP "tests"
  nL : NoAttr K CP "links"
  nX : NoAttr K CP "_text"
  mgC : mg "Pattern" = some (.ref CP)
section
variable {P : Program} {w : World} {K : PySem.W.Frag} {mg : Str → Option Value} {base : Heap} {t1 t2 t3 t4 t5 t6 : Tok}
/-! ### passes -/
def spPasses : Sp := fun vs H Q _ => ∃ (b : Addr) (x : Tst) (k m : Str), vs = [.ref b, .str k, .str m] ∧ H b = some (.tup [.str x.1, .str x.2]) ∧ ∀ H', Same H H' → Q (.bl (passB x k m)) H'
theorem scPasses : FnScope ["test", "kind", "mark"] ["test", "kind", "mark"] (defScope sPasses) := ⟨rfl, rfl, rfl, by decide +kernel, rfl, by decide +kernel, by decide +kernel⟩
theorem ok_passes {f : Addr} {fd : FuncData} (B : Blt mg) (Z : Cst mg t1 t2 t3 t4 t5 t6) (F : Fun K "passes" "passes" sPasses f fd) : FnOk P w K mg base CX0 1 f fd ["test", "kind", "mark"] spPasses := by
  refine F.ok scPasses (fun vs H Q E h => ?_) (fun cdv A0 outer s H vs Q E hr h => ?_)
  · obtain ⟨b, x, k, m, rfl, _⟩ := h; rfl
  · obtain ⟨b, x, k, m, rfl, hb, q⟩ := h
    refine ⟨_, (pss_one (ps_ret (pe_and (pe_cmpR op_in_seq (pe_ix ix_tup (pv 0) pe_int (fun _ _ => rfl)) (pe_tup (pa_cons (pe_glob (v := .str (Str.ofString "*")) (by rfl) Z.g_ANY_KIND ⟨_, rfl⟩) (pa_cons (pv 1) pa_nil))) (by with_unfolding_all rfl)) (pe_one (pe_cmpR op_in_seq (pe_ix ix_tup (pv 0) pe_int (fun _ _ => rfl)) (pe_tup (pa_cons pe_str (pa_cons (pv 2) pa_nil))) (by with_unfolding_all rfl)))))), ?_⟩
    refine ⟨.ref b, rfl, b, _, 0, .str x.1, rfl, rfl, SqT.of hb, atI_nat (j := 0) rfl, .str k, rfl, by show 2 ≤ sizeLine; decide, fun t1 n1 => ⟨t1, _, rfl, .inr (SqT.of upd_same), rfl, rfl, _, rfl, ?_⟩⟩
    have s1 := same_new n1 (o := .tup [.str (Str.ofString "*"), .str k])
    show (if inV _ _ = true then _ else _)
    rw [inV_two]
    have e1 : (decide (x.1 = Str.ofString "*") || decide (x.1 = k)) = (decide (x.1 = starS) || decide (x.1 = k)) := rfl
    rw [e1]
    cases hc : (decide (x.1 = starS) || decide (x.1 = k)) with
    | false =>
      refine iteF ?_
      have := q _ s1
      unfold passB at this
      rw [hc, Bool.false_and] at this; exact this
    | true =>
      refine iteT ⟨.ref b, rfl, b, _, 1, .str x.2, rfl, rfl, SqT.of (s1 _ _ hb), atI_nat (j := 1) rfl, .str m, rfl, by show 2 ≤ sizeLine; decide, fun t2 n2 => ⟨t2, _, rfl, .inr (SqT.of upd_same), rfl, rfl, ?_⟩⟩
      show Q (.bl (inV _ _)) _
      rw [inV_two]
      have := q _ (s1.trans (same_new n2 (o := .tup [.str (Str.ofString ""), .str m])))
      unfold passB at this
      rw [hc, Bool.true_and] at this
      have e2 : decide (x.2 = Str.ofString "") = decide (tl x.2 = []) := by
        refine decide_eq_decide.mpr ⟨fun h => by rw [h]; decide +kernel, fun h => str_eq (by rw [h]; decide +kernel)⟩
      rw [e2]; exact this
/-! ### Pattern.__init__ -/
def spPInit (CP : Addr) : Sp := fun vs H Q _ => ∃ (p dx : Addr) (z : Str) (tk : List Tk) (ts : List Tst) (ls : List Nat), vs = [.ref p, .str z] ∧ H p = some (.ins CP dx []) ∧ tk ≠ [] ∧ tk.length ≤ 20 ∧ okTk ([], [], 0) tk ∧ tl z = TL.joinL [32] (tk.map encT) ∧ tk.foldl stp ([], [], 0) = (ts, ls, 0) ∧ ts.length ≤ 4 ∧ z.length ≤ 1000 ∧
  ∀ H', (∀ b o, b ≠ p → H b = some o → H' b = some o) → PatAt CP H' p ts ls → Q .non H'
theorem scPInit : FnScope ["self", "text", "told"] ["self", "text"] (defScope sPInit) := ⟨rfl, rfl, rfl, by decide +kernel, rfl, by decide +kernel, by decide +kernel⟩
theorem ok_pinit {CP f f_read_tests f_read_test f_is_name f_name_end f_is_letter : Addr} {fd fd_read_tests fd_read_test fd_is_name fd_name_end fd_is_letter : FuncData} (B : Blt mg) (Z : Cst mg t1 t2 t3 t4 t5 t6) (T : Txt K mg CP) (F : Fun K "__init__" "Pattern.__init__" sPInit f fd)
    (F_read_tests : Fun K "_read_tests" "_read_tests" sTests f_read_tests fd_read_tests) (b_read_tests : Binds K fd_read_tests ["text"] []) (g_read_tests : mg "_read_tests" = some (.ref f_read_tests))
    (F_read_test : Fun K "_read_test" "_read_test" sTest f_read_test fd_read_test) (b_read_test : Binds K fd_read_test ["word"] []) (g_read_test : mg "_read_test" = some (.ref f_read_test))
    (F_is_name : Fun K "is_name" "is_name" sIsName f_is_name fd_is_name) (b_is_name : Binds K fd_is_name ["text"] []) (g_is_name : mg "is_name" = some (.ref f_is_name))
    (F_name_end : Fun K "name_end" "name_end" sNameEnd f_name_end fd_name_end) (b_name_end : Binds K fd_name_end ["text", "start"] []) (g_name_end : mg "name_end" = some (.ref f_name_end))
    (F_is_letter : Fun K "is_letter" "is_letter" sLetter f_is_letter fd_is_letter) (b_is_letter : Binds K fd_is_letter ["char"] []) (g_is_letter : mg "is_letter" = some (.ref f_is_letter)) :
    FnOk P w K mg base CX0 6 f fd ["self", "text"] (spPInit CP) := by
  have G_read_tests : FnOk P w K mg base CX0 5 f_read_tests fd_read_tests ["text"] spTests := ok_tests B Z F_read_tests F_read_test b_read_test g_read_test F_is_name b_is_name g_is_name F_name_end b_name_end g_name_end F_is_letter b_is_letter g_is_letter
  refine F.ok scPInit (fun vs H Q E h => ?_) (fun cdv A0 outer s H vs Q E hr h => ?_)
  · obtain ⟨p, dx, z, tk, ts, ls, rfl, _⟩ := h; rfl
  · obtain ⟨p, dx, z, tk, ts, ls, rfl, hp, hne, h20, hok, hz, hfin, h4, hzl, q⟩ := h
    refine ⟨_, pss_cons (ps_set (i := 2) scPInit.nd rfl (.inl rfl) (pe_call G_read_tests hr (by rfl) g_read_tests F_read_tests.kp b_read_tests .nil pass0 (pa_cons (pv 1) pa_nil)))
      (pss_cons (ps_if (pt_cmpR op_isN (pv 2) pe_non (nomark _)) (pss_one ps_never) pss_nil)
      (pss_cons (ps_fld (pv 0) (pv 1) rfl)
      (pss_one (ps_asg (pv 2) (pg_tup rfl (pgs_cons (pg_att (pv 0)) (pgs_cons (pg_att (pv 0)) pgs_nil))))))), ?_⟩
    refine ⟨.str z, rfl, z, tk, ts, ls, rfl, hne, h20, hok, hz, hfin, h4, hzl, fun H1 r a b s1 hr1 hpa => ?_⟩
    refine ⟨.ref r, rfl, rfl, _, rfl, iteF ?_⟩
    have hp1 := s1 _ _ hp
    have nrp : r ≠ p := ne_of hr1 hp1 (by intro z; cases z)
    refine ⟨.str z, rfl, .ref p, rfl, p, CP, dx, [], rfl, hp1, T.cl, T.nX, by show 0 < 1000; decide, ?_⟩
    obtain ⟨⟨us, h1, h2⟩, h3⟩ := hpa
    have nap : a ≠ p := ne_of h1 hp1 (by intro z; cases z)
    have nbp : b ≠ p := ne_of h3 hp1 (by intro z; cases z)
    refine ⟨.ref r, rfl, r, _, rfl, SqT.of (by rw [upd_ne nrp]; exact hr1), rfl, .ref a, _, rfl, .ref p, rfl, p, CP, dx, _, rfl, upd_same, T.cl, T.nT, by show 1 < 1000; decide, .ref b, _, rfl, .ref p, rfl, p, CP, dx, _, rfl, upd_same, T.cl, T.nL, by show 2 < 1000; decide, rfl, ?_⟩
    have tt : ∀ c ys, H1 c = some (.tup ys) → ∀ o1 o2 o3, upd (upd (upd H1 p o1) p o2) p o3 c = some (.tup ys) := fun c ys h o1 o2 o3 => by
      have : c ≠ p := ne_of h hp1 (by intro z; cases z)
      rw [upd_ne this, upd_ne this, upd_ne this]; exact h
    refine q _ (fun c o h e => by rw [upd_ne h, upd_ne h, upd_ne h]; exact s1 _ _ e) ⟨dx, _, a, b, upd_same, ?_, ?_, ?_, ⟨us, tt _ _ h1 _ _ _, h2.tups fun c ys h => tt _ _ h _ _ _⟩, tt _ _ h3 _ _ _⟩
    · rw [lookup_putF, if_neg (by decide +kernel), lookup_putF, if_pos rfl]
    · rw [lookup_putF, if_pos rfl]
    · rw [lookup_putF, if_neg (by decide +kernel), lookup_putF, if_neg (by decide +kernel), lookup_putF, if_neg (by decide +kernel)]; rfl
end
end K09

set_option maxRecDepth 100000
set_option maxHeartbeats 4000000
namespace K09
open PySem PySem.Spec PyProof.Rows L2
theorem PlacesAt.tups {H H' : Hp} {us : List V} {ps : List (List Int)} (h : PlacesAt H us ps) (s : ∀ b ys, H b = some (.tup ys) → H' b = some (.tup ys)) : PlacesAt H' us ps :=
  ⟨h.1, fun i v q a b => by obtain ⟨t, e, ht⟩ := h.2 i v q a b; exact ⟨t, e, s _ _ ht⟩⟩
theorem eqB {l : Nat} (h : l ≤ 2) : decide (lv l = V.str (Str.ofString "+")) = decide (l = 2) := by
  match l, h with
  | 0, _ => decide +kernel
  | 1, _ => decide +kernel
  | 2, _ => decide +kernel
  | l + 3, h => omega
theorem eqC {l : Nat} (h : l ≤ 2) : decide (lv l = V.str (Str.ofString ">")) = decide (l = 1) := by
  match l, h with
  | 0, _ => decide +kernel
  | 1, _ => decide +kernel
  | 2, _ => decide +kernel
  | l + 3, h => omega
section
variable {P : Program} {w : World} {K : PySem.W.Frag} {mg : Str → Option Value} {base : Heap} {t1 t2 t3 t4 t5 t6 : Tok}
/-! ### _linked_places -/
def spLinked : Sp := fun vs H Q _ => ∃ (t : T) (v : V) (p : Addr) (ns : List Int) (l : Nat), vs = [v, .ref p, lv l] ∧ IsT H v t ∧ sz t ≤ 1000 ∧ H p = some (.tup (ns.map V.int)) ∧ l ≤ 2 ∧ (∃ k m cs, atP t ns = some (.el k m cs)) ∧
  ∀ H' a us, Same H H' → H' a = some (.lst us) → PlacesAt H' us (linked t ns l) → Q (.ref a) H'
abbrev nLk : List Str := ["tree", "place", "link", "elder", "depth"]
theorem scLinked : FnScope nLk ["tree", "place", "link"] (defScope sLinked) := ⟨rfl, rfl, rfl, by decide +kernel, rfl, by decide +kernel, by decide +kernel⟩
theorem ok_linked {f C fI f_elder_of f_element_at f_node_at : Addr} {fd fdI fd_elder_of fd_element_at fd_node_at : FuncData} (B : Blt mg) (Z : Cst mg t1 t2 t3 t4 t5 t6) (N : NoP K mg C fI fdI) (F : Fun K "_linked_places" "_linked_places" sLinked f fd)
    (F_elder_of : Fun K "elder_of" "elder_of" sElder f_elder_of fd_elder_of) (b_elder_of : Binds K fd_elder_of ["tree", "place"] []) (g_elder_of : mg "elder_of" = some (.ref f_elder_of))
    (F_element_at : Fun K "element_at" "element_at" sElem f_element_at fd_element_at) (b_element_at : Binds K fd_element_at ["tree", "place"] []) (g_element_at : mg "element_at" = some (.ref f_element_at))
    (F_node_at : Fun K "node_at" "node_at" sNode f_node_at fd_node_at) (b_node_at : Binds K fd_node_at ["tree", "place"] []) (g_node_at : mg "node_at" = some (.ref f_node_at)) :
    FnOk P w K mg base (L2.CX P w) 6 f fd ["tree", "place", "link"] spLinked := by
  have G_elder_of : FnOk P w K mg base (L2.CX P w) 5 f_elder_of fd_elder_of ["tree", "place"] (spElder C) := ok_elder B N F_elder_of F_node_at b_node_at g_node_at F_element_at b_element_at g_element_at
  refine F.okX scLinked (fun vs H Q E h => ?_) (fun cdv A outer s H vs Q E hr h => ?_)
  · obtain ⟨t, v, p, ns, l, rfl, _⟩ := h; rfl
  · obtain ⟨t, v, p, ns, l, rfl, ht, hsz, hp, hl, ⟨k, m, cs, hel⟩, q⟩ := h
    refine ⟨_, (pss_cons (ps_if (pt_cmpR op_eq (pv 2) (pe_glob (v := .str (Str.ofString "+")) (by rfl) Z.g_BEHIND ⟨_, rfl⟩) (nomark _))
      (pss_cons (ps_set (i := 3) scLinked.nd rfl (.inl rfl) (pe_call G_elder_of hr (by rfl) g_elder_of F_elder_of.kp b_elder_of .nil (passes_call (takes_of rfl rfl rfl rfl) (fun _ _ _ _ h => h)) (pa_cons (pv 0) (pa_cons (pv 1) pa_nil))))
       (pss_one (ps_ret (pe_ifExp (pt_cmpR op_isN (pv 3) pe_non (nomark _)) (pe_lst pa_nil) (pe_lst (pa_cons (pv 3) pa_nil))))))
      pss_nil)
      (pss_cons (ps_if (pt_cmpR (op_eqD hr.units) (pv 1) (pe_tup pa_nil) (nomark _))
      (pss_one (ps_ret (pe_lst pa_nil)))
      pss_nil)
      (pss_cons (ps_if (pt_cmpR op_eq (pv 2) (pe_glob (v := .str (Str.ofString ">")) (by rfl) Z.g_CHILD ⟨_, rfl⟩) (nomark _))
      (pss_one (ps_ret (pe_lst (pa_cons (pe_slice sl_tupA (pv 1) po_none (po_some (pe_un un_neg pe_int))) pa_nil))))
      pss_nil)
      (pss_one (ps_ret (pe_lc (own := [("depth", 4)]) (g := gName 4) (tt := tYes) rfl scLinked.nd (pi_range1 (by rfl) B.range (pa_cons (pe_callB call_len (by rfl) B.len PySem.boot_len (pa_cons (pv 1) pa_nil)) pa_nil)) (blkOk_by (N := nLk) (sc := defScope sLinked) (by decide +kernel)) (fun _ _ _ _ _ => (pg_name (i := 4) scLinked.nd rfl (.inl rfl))) (fun _ _ _ _ _ => pts_nil) (fun _ _ _ _ _ => (pe_slice (show SlR _ (rSlA K) from sl_tupA) (pv 1) po_none (po_some (pv 4)))))))))), ?_⟩
    have hns : ns.length ≤ 1000 := by have := atP_sz hel; omega
    refine ⟨lv l, rfl, rfl, _, rfl, ?_⟩
    rw [eqB hl]
    by_cases h2 : l = 2
    · rw [decide_eq_true h2]
      have elk0 : eldP t ns = none → linked t ns l = [] := fun e => by unfold linked; rw [if_pos h2, e]
      have elk1 : ∀ ms, eldP t ns = some ms → linked t ns l = [ms] := fun ms e => by unfold linked; rw [if_pos h2, e]
      refine iteT ⟨v, rfl, .ref p, rfl, t, v, p, ns, rfl, ht, hsz, hp, fun h0 _ H1 s1 => ?_, fun ms i k1 m1 cs1 c h0 h1 h3 h4 => ⟨fun he H1 s1 => ?_, fun j he H1 a s1 ha => ?_⟩, fun hn => absurd hel (hn _ _ _)⟩
      · refine ⟨.non, rfl, rfl, _, rfl, iteT ⟨Nat.zero_le _, fun D hD => q _ D [] (s1.trans (same_new hD)) upd_same ?_⟩⟩
        rw [elk0 (by rw [h0, eldP_nil])]; exact PlacesAt.nil
      · refine ⟨.non, rfl, rfl, _, rfl, iteT ⟨Nat.zero_le _, fun D hD => q _ D [] (s1.trans (same_new hD)) upd_same ?_⟩⟩
        rw [elk0 (by rw [h0, eldP_snoc h1, he]; rfl)]; exact PlacesAt.nil
      · refine ⟨.ref a, rfl, rfl, _, rfl, iteF ⟨.ref a, rfl, by show 1 ≤ sizeLine; decide, fun D hD => q _ D [.ref a] (s1.trans (same_new hD)) upd_same ?_⟩⟩
        rw [elk1 _ (by rw [h0, eldP_snoc h1, he]; rfl)]; exact PlacesAt.one (same_new hD _ _ ha)
    · rw [decide_eq_false h2]
      refine iteF ⟨.ref p, rfl, Nat.zero_le _, fun o no => ?_⟩
      have s1 : Same H (upd H o (.tup [])) := same_new no
      refine ⟨.tuple (ns.map PyData.int), .tuple [], .tup (SqT.of (s1 _ _ hp)) (dp_ints ns), .tup (SqT.of upd_same) .nil, shaped_ints ns, shaped_ints [], _, rfl, ?_⟩
      rw [eqv_unit]
      have hp1 := s1 _ _ hp
      generalize upd H o (.tup []) = H1 at s1 hp1 ⊢
      by_cases hn : ns = []
      · rw [decide_eq_true hn]
        refine iteT ⟨Nat.zero_le _, fun D hD => q _ D [] (s1.trans (same_new hD)) upd_same ?_⟩
        unfold linked; rw [if_neg h2, if_pos hn]; exact PlacesAt.nil
      · rw [decide_eq_false hn]
        refine iteF ⟨lv l, rfl, rfl, _, rfl, ?_⟩
        rw [eqC hl]
        by_cases h1 : l = 1
        · rw [decide_eq_true h1]
          obtain ⟨ms, i, rfl⟩ := snoc_of hn
          refine iteT ⟨.ref p, rfl, 1, rfl, -1, rfl, p, _, rfl, SqT.of hp1, fun hw => absurd hw (cut_whole ms _), fun _ ab nab => ?_⟩
          rw [cut_last]
          refine ⟨by show 1 ≤ sizeLine; decide, fun D hD => q _ D [.ref ab] ((s1.trans (same_new nab)).trans (same_new hD)) upd_same ?_⟩
          unfold linked; rw [if_neg h2, if_neg hn, if_pos h1, List.dropLast_concat]
          exact PlacesAt.one (same_new hD _ _ upd_same)
        · rw [decide_eq_false h1]
          refine iteF ⟨.ref p, rfl, .ref p, (ns.map V.int).length, rfl, .inr ⟨_, SqT.of hp1, rfl⟩, (((ns.map V.int).length : Nat) : Int), rfl, by omega, by rw [List.length_map]; omega, fun D hD => ?_⟩
          rw [Int.toNat_natCast, List.length_map]
          refine lc_range (lo := 0) (n := ns.length) (fun i H' => ∃ us, H' D = some (.lst us) ∧ PlacesAt H' us ((List.range i).map fun n => ns.take n) ∧ Same H1 H') ⟨[], upd_same, PlacesAt.nil, same_new hD⟩ ?_ ?_
          · rintro i H' hi ⟨us, hus, hpl, sm⟩
            have e0 : (0 : Int) + (i : Int) = (i : Int) := by omega
            rw [e0]
            obtain ⟨c1, c2⟩ := cut_takeI ns hi
            have hul := hpl.1
            rw [List.length_map, List.length_range] at hul
            refine ⟨rfl, .ref p, rfl, .int (i : Int), rfl, (i : Int), rfl, p, _, rfl, SqT.of (sm _ _ hp1), fun hw => absurd hw c2, fun _ b nb => ?_⟩
            rw [c1]
            have st := same_new nb (o := .tup ((ns.take i).map V.int))
            refine ⟨us, st _ _ hus, small1000 (by omega), us ++ [.ref b], upd_same, ?_, same_at (sm.trans st) hD⟩
            have tt : ∀ c ys, (upd H' b (.tup ((ns.take i).map V.int))) c = some (.tup ys) → upd (upd H' b (.tup ((ns.take i).map V.int))) D (.lst (us ++ [.ref b])) c = some (.tup ys) := fun c ys h => by
              rw [upd_ne (ne_of h (st _ _ hus) (by intro z; cases z))]; exact h
            rw [List.range_succ, List.map_append]
            exact ((hpl.same st).tups tt).snoc (tt _ _ upd_same)
          · rintro H' ⟨us, hus, hpl, sm⟩
            refine q _ D us (s1.trans sm) hus ?_
            unfold linked; rw [if_neg h2, if_neg hn, if_neg h1]; exact hpl
/-! ### Pattern._reaches -/
def spReach (CP : Addr) (n : Nat) : Sp := fun vs H Q _ => ∃ (p q : Addr) (v : V) (t : T) (ns : List Int) (ts : List Tst) (ls : List Nat) (j : Nat), vs = [.ref p, v, .ref q, .int (j : Int)] ∧ PatAt CP H p ts ls ∧ IsT H v t ∧ sz t ≤ 1000 ∧ H q = some (.tup (ns.map V.int)) ∧ (∃ k m cs, atP t ns = some (.el k m cs)) ∧
  j < n ∧ j < ts.length ∧ ts.length = ls.length + 1 ∧ (∀ l ∈ ls, l ≤ 2) ∧ ∀ H', Same H H' → Q (.bl (mt t ts ls j ns)) H'
abbrev nRe : List Str := ["self", "tree", "place", "last", "kind", "mark", "_", "other"]
theorem scReach : FnScope nRe ["self", "tree", "place", "last"] (defScope sReach) := ⟨rfl, rfl, rfl, by decide +kernel, rfl, by decide +kernel, by decide +kernel⟩
theorem ok_reach {f CP C fI f_linked_places f_passes f_elder_of f_element_at f_node_at : Addr} {fd fdI fd_linked_places fd_passes fd_elder_of fd_element_at fd_node_at : FuncData} (B : Blt mg) (Z : Cst mg t1 t2 t3 t4 t5 t6) (T : Txt K mg CP) (N : NoP K mg C fI fdI) (F : Fun K "_reaches" "Pattern._reaches" sReach f fd)
    (b_reach : Binds K fd ["self", "tree", "place", "last"] []) (m_reach : Meth K CP "_reaches" f)
    (F_linked_places : Fun K "_linked_places" "_linked_places" sLinked f_linked_places fd_linked_places) (b_linked_places : Binds K fd_linked_places ["tree", "place", "link"] []) (g_linked_places : mg "_linked_places" = some (.ref f_linked_places))
    (F_passes : Fun K "passes" "passes" sPasses f_passes fd_passes) (b_passes : Binds K fd_passes ["test", "kind", "mark"] []) (g_passes : mg "passes" = some (.ref f_passes))
    (F_elder_of : Fun K "elder_of" "elder_of" sElder f_elder_of fd_elder_of) (b_elder_of : Binds K fd_elder_of ["tree", "place"] []) (g_elder_of : mg "elder_of" = some (.ref f_elder_of))
    (F_element_at : Fun K "element_at" "element_at" sElem f_element_at fd_element_at) (b_element_at : Binds K fd_element_at ["tree", "place"] []) (g_element_at : mg "element_at" = some (.ref f_element_at))
    (F_node_at : Fun K "node_at" "node_at" sNode f_node_at fd_node_at) (b_node_at : Binds K fd_node_at ["tree", "place"] []) (g_node_at : mg "node_at" = some (.ref f_node_at)) : ∀ n,
    FnOk P w K mg base (L2.CX P w) (n + 7) f fd ["self", "tree", "place", "last"] (spReach CP n)
  | 0 => F.okX scReach (fun vs H Q E h => by obtain ⟨p, q, v, t, ns, ts, ls, j, _, _, _, _, _, _, h, _⟩ := h; omega) (fun cdv A outer s H vs Q E hr h => by obtain ⟨p, q, v, t, ns, ts, ls, j, _, _, _, _, _, _, h, _⟩ := h; omega)
  | n + 1 => by
    have G_reach := ok_reach B Z T N F b_reach m_reach F_linked_places b_linked_places g_linked_places F_passes b_passes g_passes F_elder_of b_elder_of g_elder_of F_element_at b_element_at g_element_at F_node_at b_node_at g_node_at n
    have G_linked_places : FnOk P w K mg base (L2.CX P w) 6 f_linked_places fd_linked_places ["tree", "place", "link"] spLinked := ok_linked B Z N F_linked_places F_elder_of b_elder_of g_elder_of F_element_at b_element_at g_element_at F_node_at b_node_at g_node_at
    have G_element_at : FnOk P w K mg base (L2.CX P w) 4 f_element_at fd_element_at ["tree", "place"] (spElem C) := ok_elem B N F_element_at F_node_at b_node_at g_node_at
    have G_passes : FnOk P w K mg base CX0 1 f_passes fd_passes ["test", "kind", "mark"] spPasses := ok_passes B Z F_passes
    refine F.okX scReach (fun vs H Q E h => ?_) (fun cdv A outer s H vs Q E hr h => ?_)
    · obtain ⟨p, q, v, t, ns, ts, ls, j, rfl, _⟩ := h; rfl
    · obtain ⟨p, q, v, t, ns, ts, ls, j, rfl, hP, ht, hsz, hq, ⟨k, m, cs, hel⟩, hj, hjt, hlen, hl2, qq⟩ := h
      have hr1 : Room 1 _ := hr.mono (by omega)
      have hr4 : Room 4 _ := hr.mono (by omega)
      have hr6 : Room 6 _ := hr.mono (by omega)
      obtain ⟨dx, fs, a, b, hp, f1, f2, f3, ⟨⟨us, hus, huT⟩, hls⟩⟩ := id hP
      refine ⟨_, (pss_cons (ps_asg (pe_call G_element_at hr4 (by rfl) g_element_at F_element_at.kp b_element_at .nil (passes_call (takes_of rfl rfl rfl rfl) (fun _ _ _ _ h => h)) (pa_cons (pv 1) (pa_cons (pv 2) pa_nil))) (pg_tup rfl (pgs_cons (pg_name (i := 4) scReach.nd rfl (.inl rfl)) (pgs_cons (pg_name (i := 5) scReach.nd rfl (.inl rfl)) (pgs_cons (pg_name (i := 6) scReach.nd rfl (.inl rfl)) pgs_nil)))))
      (pss_cons (ps_if (pt_not (pt_val (pe_call G_passes hr1 (by rfl) g_passes F_passes.kp b_passes .nil pass0 (pa_cons (pe_ix ix_tup (pe_fld (pv 0) rfl) (pv 3) (fun _ _ => rfl)) (pa_cons (pv 4) (pa_cons (pv 5) pa_nil))))))
      (pss_one (ps_ret pe_bl))
      pss_nil)
      (pss_cons (ps_if (pt_cmpR op_eq (pv 3) pe_int (nomark _))
      (pss_one (ps_ret pe_bl))
      pss_nil)
      (pss_cons (ps_for (passes_of rfl) rfl (pi_list (pe_call G_linked_places hr6 (by rfl) g_linked_places F_linked_places.kp b_linked_places .nil (passes_call (takes_of rfl rfl rfl rfl) (fun _ _ _ _ h => h)) (pa_cons (pv 1) (pa_cons (pv 2) (pa_cons (pe_ix ix_tup (pe_fld (pv 0) rfl) (pe_op op_sub (pv 3) pe_int) (fun _ _ => rfl)) pa_nil))))) (pg_name (i := 7) scReach.nd rfl (.inl rfl))
      (pss_one (ps_if (pt_val (pe_meth (pv 0) T.cl m_reach G_reach hr b_reach .nil (passes_call (takes_of rfl rfl rfl rfl) (fun _ _ _ _ h => h)) (pa_cons (pv 1) (pa_cons (pv 7) (pa_cons (pe_op op_sub (pv 3) pe_int) pa_nil)))))
       (pss_one (ps_ret pe_bl))
       pss_nil)))
      (pss_one (ps_ret pe_bl)))))), ?_⟩
      refine ⟨v, rfl, .ref q, rfl, t, v, q, ns, rfl, ht, hq, fun k' m' cs' x hu hx => ?_, fun hn => absurd hel (hn _ _ _)⟩
      rw [hel] at hu; cases hu
      obtain ⟨xa, xb, vs', rfl, h1, h2, hall⟩ := hx.el_inv
      refine ⟨xa, _, rfl, SqT.of h1, rfl, .str k, _, rfl, .str m, _, rfl, .ref xb, _, rfl, rfl, ?_⟩
      have hxj : ts[j]? = some (ts[j]'hjt) := List.getElem?_eq_getElem _
      obtain ⟨tv, tb, hv, rfl, htb⟩ := huT.get hxj
      have hhit : hitB t ns (ts[j]'hjt) = passB (ts[j]'hjt) k m := by unfold hitB; rw [hel]
      refine ⟨.ref p, rfl, p, CP, dx, fs, .ref a, rfl, hp, T.cl, T.nT, f1, .int (j : Int), rfl, a, us, (j : Int), .ref tb, rfl, rfl, SqT.of hus, atI_nat hv, .str k, rfl, .str m, rfl, tb, ts[j]'hjt, k, m, rfl, htb, fun H1 s1 => ⟨_, rfl, ?_⟩⟩
      cases hpb : passB (ts[j]'hjt) k m with
      | false =>
        refine iteT ?_
        have := qq _ s1
        have e : mt t ts ls j ns = false := by
          cases j with
          | zero => simp only [mt, hxj]; rw [hhit]; exact hpb
          | succ j => simp only [mt, hxj]; rw [hhit, hpb, Bool.false_and]
        rw [e] at this; exact this
      | true =>
        refine iteF ⟨.int (j : Int), rfl, rfl, _, rfl, ?_⟩
        rw [eqI]
        cases j with
        | zero =>
          rw [decide_eq_true (show ((0 : Nat) : Int) = 0 by rfl)]
          refine iteT ?_
          have := qq _ s1
          have e : mt t ts ls 0 ns = true := by simp only [mt, hxj]; rw [hhit]; exact hpb
          rw [e] at this; exact this
        | succ j =>
          rw [decide_eq_false (by omega)]
          have hlj : ls[j]? = some (ls[j]'(by omega)) := List.getElem?_eq_getElem _
          have em : mt t ts ls (j + 1) ns = (linked t ns (ls[j]'(by omega))).any (mt t ts ls j) := by
            simp only [mt, hxj, hlj]; rw [hhit, hpb, Bool.true_and]
          have hl := hl2 _ (List.getElem_mem (show j < ls.length by omega))
          have hat : atI (ls.map lv) (((j + 1 : Nat) : Int) - 1) = some (lv (ls[j]'(by omega))) := at_of (j := j) (by omega) (by rw [List.getElem?_map, hlj]; rfl)
          generalize ls[j]'(by omega) = l at em hl hat
          refine iteF ⟨v, rfl, .ref q, rfl, .ref p, rfl, p, CP, dx, fs, .ref b, rfl, s1 _ _ hp, T.cl, T.nL, f2, .int ((j + 1 : Nat) : Int), rfl, _, 1, rfl, rfl, b, ls.map lv, _, lv l, rfl, rfl, SqT.of (s1 _ _ hls), hat, t, v, q, ns, l, rfl, ht.mono (Same.tups s1), hsz, s1 _ _ hq, hl, ⟨k, m, cs, hel⟩, fun H2 D ds s2 hD hpl => ?_⟩
          have s12 := s1.trans s2
          refine ⟨D, rfl, ⟨_, SqL.of hD⟩, for_list (K := K) (a := D) (xs := ds) (fun i σ H' => ∃ y7 : Option V, σ = [some (.ref p), some v, some (.ref q), some (.int ((j + 1 : Nat) : Int)), some (.str k), some (.str m), some (.ref xb), y7] ∧ Same H2 H' ∧ ((linked t ns l).take i).any (mt t ts ls j) = false)
            ⟨none, rfl, Same.refl _, rfl⟩ (fun i σ H' _ ⟨_, _, s, _⟩ => SqL.of (s _ _ hD)) ?_ ?_⟩
          · rintro i u σ H' hi ⟨y7, rfl, sm, hno⟩
            obtain ⟨qn, qb, hqn, rfl, hqb⟩ := hpl.get hi
            have s13 := s12.trans sm
            have he2 := linked_el hel l qn (List.mem_of_getElem? hqn)
            refine ⟨.ref p, rfl, p, dx, fs, rfl, s13 _ _ hp, f3, v, rfl, .ref qb, rfl, .int ((j + 1 : Nat) : Int), rfl, _, 1, rfl, rfl, p, qb, v, t, qn, ts, ls, j, by show V.ref p :: [v, V.ref qb, V.int (((j + 1 : Nat) : Int) - 1)] = _; rw [show ((j + 1 : Nat) : Int) - 1 = (j : Int) by omega], hP.same s13, ht.mono (Same.tups s13), hsz, sm _ _ hqb, he2, by omega, by omega, hlen, hl2, fun H3 s3 => ⟨_, rfl, ?_⟩⟩
            cases hm : mt t ts ls j qn with
            | true =>
              refine iteT ?_
              have := qq _ (s13.trans s3)
              rw [em] at this
              have e : (linked t ns l).any (mt t ts ls j) = true := List.any_eq_true.mpr ⟨qn, List.mem_of_getElem? hqn, hm⟩
              rw [e] at this; exact this
            | false =>
              refine iteF ⟨_, rfl, sm.trans s3, ?_⟩
              rw [List.take_add_one, hqn, List.any_append, hno]
              show (false || (mt t ts ls j qn || false)) = false
              rw [hm]; rfl
          · rintro σ H' ⟨y7, rfl, sm, hno⟩
            rw [hpl.1, List.take_length] at hno
            have := qq _ (s12.trans sm)
            rw [em, hno] at this; exact this
/-! ### Pattern.__call__ -/
def spPCall (CP C : Addr) : Sp := fun vs H Q E => ∃ (p q : Addr) (v : V) (t : T) (ns : List Int) (ts : List Tst) (ls : List Nat), vs = [.ref p, v, .ref q] ∧ PatAt CP H p ts ls ∧ IsT H v t ∧ sz t ≤ 1000 ∧ H q = some (.tup (ns.map V.int)) ∧
  1 ≤ ts.length ∧ ts.length ≤ 4 ∧ ts.length = ls.length + 1 ∧ (∀ l ∈ ls, l ≤ 2) ∧ ((∃ k m cs, atP t ns = some (.el k m cs)) → ∀ H', Same H H' → Q (.bl (mt t ts ls (ts.length - 1) ns)) H') ∧
  ((∀ k m cs, atP t ns ≠ some (.el k m cs)) → ∀ d, H d = none → E (.ref C) (some d) (upd H d (.xd [("place", .ref q)])))
theorem scPCall : FnScope ["self", "tree", "place"] ["self", "tree", "place"] (defScope sPCall) := ⟨rfl, rfl, rfl, by decide +kernel, rfl, by decide +kernel, by decide +kernel⟩
theorem ok_pcall {f CP C fI f_reach f_linked_places f_passes f_elder_of f_element_at f_node_at : Addr} {fd fdI fd_reach fd_linked_places fd_passes fd_elder_of fd_element_at fd_node_at : FuncData} (B : Blt mg) (Z : Cst mg t1 t2 t3 t4 t5 t6) (T : Txt K mg CP) (N : NoP K mg C fI fdI) (F : Fun K "__call__" "Pattern.__call__" sPCall f fd)
    (F_reach : Fun K "_reaches" "Pattern._reaches" sReach f_reach fd_reach) (b_reach : Binds K fd_reach ["self", "tree", "place", "last"] []) (m_reach : Meth K CP "_reaches" f_reach)
    (F_linked_places : Fun K "_linked_places" "_linked_places" sLinked f_linked_places fd_linked_places) (b_linked_places : Binds K fd_linked_places ["tree", "place", "link"] []) (g_linked_places : mg "_linked_places" = some (.ref f_linked_places))
    (F_passes : Fun K "passes" "passes" sPasses f_passes fd_passes) (b_passes : Binds K fd_passes ["test", "kind", "mark"] []) (g_passes : mg "passes" = some (.ref f_passes))
    (F_elder_of : Fun K "elder_of" "elder_of" sElder f_elder_of fd_elder_of) (b_elder_of : Binds K fd_elder_of ["tree", "place"] []) (g_elder_of : mg "elder_of" = some (.ref f_elder_of))
    (F_element_at : Fun K "element_at" "element_at" sElem f_element_at fd_element_at) (b_element_at : Binds K fd_element_at ["tree", "place"] []) (g_element_at : mg "element_at" = some (.ref f_element_at))
    (F_node_at : Fun K "node_at" "node_at" sNode f_node_at fd_node_at) (b_node_at : Binds K fd_node_at ["tree", "place"] []) (g_node_at : mg "node_at" = some (.ref f_node_at)) :
    FnOk P w K mg base (L2.CX P w) 12 f fd ["self", "tree", "place"] (spPCall CP C) := by
  have G_reach : FnOk P w K mg base (L2.CX P w) 11 f_reach fd_reach ["self", "tree", "place", "last"] (spReach CP 4) := ok_reach B Z T N F_reach b_reach m_reach F_linked_places b_linked_places g_linked_places F_passes b_passes g_passes F_elder_of b_elder_of g_elder_of F_element_at b_element_at g_element_at F_node_at b_node_at g_node_at 4
  have G_element_at : FnOk P w K mg base (L2.CX P w) 4 f_element_at fd_element_at ["tree", "place"] (spElem C) := ok_elem B N F_element_at F_node_at b_node_at g_node_at
  refine F.okX scPCall (fun vs H Q E h => ?_) (fun cdv A outer s H vs Q E hr h => ?_)
  · obtain ⟨p, q, v, t, ns, ts, ls, rfl, _⟩ := h; rfl
  · obtain ⟨p, q, v, t, ns, ts, ls, rfl, hP, ht, hsz, hq, h1, h4, hlen, hl2, qq, qe⟩ := h
    have hr4 : Room 4 _ := hr.mono (by decide)
    obtain ⟨dx, fs, a, b, hp, f1, f2, f3, ⟨⟨us, hus, huT⟩, hls⟩⟩ := id hP
    refine ⟨_, pss_cons (ps_expr (pe_call G_element_at hr4 (by rfl) g_element_at F_element_at.kp b_element_at .nil (passes_call (takes_of rfl rfl rfl rfl) (fun _ _ _ _ h => h)) (pa_cons (pv 1) (pa_cons (pv 2) pa_nil))))
      (pss_one (ps_ret (pe_meth (pv 0) T.cl m_reach G_reach hr b_reach .nil (passes_call (takes_of rfl rfl rfl rfl) (fun _ _ _ _ h => h)) (pa_cons (pv 1) (pa_cons (pv 2) (pa_cons (pe_op op_sub (pe_callB call_len (by rfl) B.len PySem.boot_len (pa_cons (pe_fld (pv 0) rfl) pa_nil)) pe_int) pa_nil)))))), ?_⟩
    refine ⟨v, rfl, .ref q, rfl, t, v, q, ns, rfl, ht, hq, fun k' m' cs' x hu hx => ?_, fun hn d hd => qe hn d hd⟩
    have hul := huT.1
    refine ⟨.ref p, rfl, p, dx, fs, rfl, hp, f3, v, rfl, .ref q, rfl, .ref p, rfl, p, CP, dx, fs, .ref a, rfl, hp, T.cl, T.nT, f1, .ref a, us.length, rfl, .inr ⟨_, SqT.of hus, rfl⟩, _, 1, rfl, rfl, p, q, v, t, ns, ts, ls, ts.length - 1, by show V.ref p :: [v, V.ref q, V.int (((us.length : Nat) : Int) - 1)] = _; rw [show ((us.length : Nat) : Int) - 1 = ((ts.length - 1 : Nat) : Int) by omega], hP, ht, hsz, hq, ⟨k', m', cs', hu⟩, by omega, by omega, hlen, hl2, fun H' s' => qq ⟨k', m', cs', hu⟩ H' s'⟩
end
end K09

set_option maxRecDepth 100000
set_option maxHeartbeats 4000000
namespace K09
open PySem PySem.Spec PyProof.Rows L2
theorem pick {z : Str} {r : Int} (h0 : 0 ≤ r) (h1 : r < (z.length : Int)) : ∃ c, atI z.cps.toList r = some c ∧ c ∈ tl z := by
  have h2 : r.toNat < z.cps.toList.length := by rw [Array.length_toList]; have : z.length = z.cps.size := rfl; omega
  have h3 : ((r.toNat : Nat) : Int) = r := by omega
  have h4 := atI_nat (List.getElem?_eq_getElem h2)
  rw [h3] at h4
  exact ⟨_, h4, List.getElem_mem h2⟩
theorem cutV_nat (xs : List V) {a b : Nat} (hab : a ≤ b) (hb : b ≤ xs.length) : cutV xs (some (a : Int)) (some (b : Int)) = (xs.drop a).take (b - a) := by
  unfold cutV
  rw [HT.sIx_nat, HT.sIx_nat, Nat.min_eq_left hb, Nat.min_eq_left (Nat.le_trans hab hb)]
def letters : Str := Str.ofString "abcdefghijklmnopqrstuvwxyz"
theorem letters_L : ∀ c ∈ tl letters, isL c = true := by decide +kernel
theorem letters_len : letters.length = 26 := by decide +kernel

theorem row_at {ls rs : List Int} (h : rs.length = ls.length ∧ ∀ (i : Nat) (l : Int), ls[i]? = some l → ∃ r, rs[i]? = some r ∧ 0 ≤ r ∧ r < l) {i : Nat} {l : Int} (hl : ls[i]? = some l) : ∃ r, rs[i]? = some r ∧ 0 ≤ r ∧ r < l := h.2 i l hl
theorem i_at {rs : List Int} {i : Nat} {r : Int} (h : rs[i]? = some r) : (rs.map V.int)[i]? = some (.int r) := by rw [List.getElem?_map, h]; rfl
theorem name_mk {z : Str} (h1 : 1 ≤ (tl z).length) (h2 : (tl z).length ≤ 8) (h3 : ∀ c ∈ tl z, isL c = true) : Name z := ⟨h1, h2, h3⟩
def words8 : List Str := ["doc", "par", "em", "head", "note", "a", "b", "x"].map Str.ofString
theorem words8_ok : ∀ z ∈ words8, (1 ≤ (tl z).length ∧ (tl z).length ≤ 8) ∧ (tl z).all isL = true := by decide +kernel
section
variable {P : Program} {w : World} {K : PySem.W.Frag} {mg : Str → Option Value} {base : Heap} {t1 t2 t3 t4 t5 t6 : Tok}
/-! ### _law_cell -/
def spCell (K : PySem.W.Frag) : Sp := fun vs H Q _ => ∃ (a : Addr) (ns : List Int) (k : Int), vs = [.ref a, .int k] ∧ SqL K H a (ns.map V.int) ∧ ns.length ≤ 63 ∧ 0 ≤ k ∧ ∀ c, Q (.int c) H
theorem scCell : FnScope ["_law_script", "_law_k"] ["_law_script", "_law_k"] (defScope sCell) := ⟨rfl, rfl, rfl, by decide +kernel, rfl, by decide +kernel, by decide +kernel⟩
theorem ok_cell {f : Addr} {fd : FuncData} (B : Blt mg) (F : Fun K "_law_cell" "_law_cell" sCell f fd) : FnOk P w K mg base CX0 1 f fd ["_law_script", "_law_k"] (spCell K) := by
  refine F.ok scCell (fun vs H Q E h => ?_) (fun cdv A outer s H vs Q E hr h => ?_)
  · obtain ⟨a, ns, k, rfl, _⟩ := h; rfl
  · obtain ⟨a, ns, k, rfl, hS, hlen, h0, q⟩ := h
    refine ⟨_, (pss_cons (ps_if (pt_cmpR op_lt (pv 1) (pe_callB call_len (by rfl) B.len PySem.boot_len (pa_cons (pv 0) pa_nil)) (nomark _))
      (pss_one (ps_ret (pe_callTy call_int1 (by rfl) B.int (by decide +kernel) (pa_cons (pe_ix ix_list (pv 0) (pv 1) (fun _ _ => rfl)) pa_nil))))
      pss_nil)
      (pss_one (ps_ret (pe_op op_add (pe_op op_mul pe_int (pv 1)) pe_int)))), ?_⟩
    refine ⟨.int k, rfl, .ref a, rfl, .ref a, (ns.map V.int).length, rfl, .inl ⟨_, hS, rfl⟩, k, _, rfl, rfl, _, rfl, ite2 (fun hk => ?_) (fun _ => ?_)⟩
    · have hk' : k < ((ns.map V.int).length : Int) := of_decide_eq_true hk
      rw [List.length_map] at hk'
      have hlt : k.toNat < ns.length := by omega
      exact ⟨.ref a, rfl, .int k, rfl, a, _, k, .int (ns[k.toNat]'hlt), rfl, rfl, hS, at_of (j := k.toNat) (by omega) (by rw [List.getElem?_map]; simp [hlt]), .inl ⟨_, rfl, q _⟩⟩
    · exact ⟨.int k, rfl, 7, k, rfl, rfl, .inl ⟨by decide, by decide⟩, _, 1, rfl, rfl, q _⟩
/-! ### _law_row -/
theorem map_snoc' (rs : List Int) (r : Int) : rs.map V.int ++ [V.int r] = (rs ++ [r]).map V.int := by rw [List.map_append]; rfl
def RowOf (ls rs : List Int) : Prop := rs.length = ls.length ∧ ∀ (i : Nat) (l : Int), ls[i]? = some l → ∃ r, rs[i]? = some r ∧ 0 ≤ r ∧ r < l
def spRow (K : PySem.W.Frag) : Sp := fun vs H Q _ => ∃ (c : Int) (a : Addr) (ls : List Int), vs = [.int c, .ref a] ∧ SqL K H a (ls.map V.int) ∧ ls.length ≤ 1000 ∧ (∀ l ∈ ls, 0 < l ∧ l < 10000000000000) ∧
  ∀ H' p rs, Same H H' → H p = none → H' p = some (.lst (rs.map V.int)) → RowOf ls rs → Q (.ref p) H'
theorem scRow : FnScope ["_law_cell_here", "_law_limits", "_law_row_here", "_law_rest", "_law_limit", "_law_k", "_law_mixed"] ["_law_cell_here", "_law_limits"] (defScope sRow) := ⟨rfl, rfl, rfl, by decide +kernel, rfl, by decide +kernel, by decide +kernel⟩
theorem ok_row {f : Addr} {fd : FuncData} (B : Blt mg) (F : Fun K "_law_row" "_law_row" sRow f fd) : FnOk P w K mg base CX0 1 f fd ["_law_cell_here", "_law_limits"] (spRow K) := by
  refine F.ok scRow (fun vs H Q E h => ?_) (fun cdv A outer s H vs Q E hr h => ?_)
  · obtain ⟨c, a, ls, rfl, _⟩ := h; rfl
  · obtain ⟨c, a, ls, rfl, hS, hlen, hpos, q⟩ := h
    refine ⟨_, (pss_cons (ps_set (i := 2) scRow.nd rfl (.inl rfl) (pe_lst pa_nil))
      (pss_cons (ps_if (pt_cmpR op_ge (pv 0) pe_int (nomark _))
      (pss_cons (ps_set (i := 3) scRow.nd rfl (.inl rfl) (pe_op op_sub (pv 0) pe_int))
       (pss_cons (ps_for (PassesOwn.never) rfl (pi_list (pv 1)) (pg_name (i := 4) scRow.nd rfl (.inl rfl))
       (pss_cons (ps_expr (pe_bm PySem.F.plainAttrs_list PySem.F.slot_list_append PySem.F.type_list_append mt_append (pv 2) (pa_cons (pe_op op_modN (pe_callTy call_int1 (by rfl) B.int (by decide +kernel) (pa_cons (pv 3) pa_nil)) (pv 4)) pa_nil)))
        (pss_one (ps_set (i := 3) scRow.nd rfl (.inl rfl) (pe_op op_fdivW (pv 3) (pv 4))))))
       (pss_one (ps_ret (pv 2)))))
      pss_nil)
      (pss_cons (ps_for (PassesOwn.never) rfl (pi_range1 (by rfl) B.range (pa_cons (pe_callB call_len (by rfl) B.len PySem.boot_len (pa_cons (pv 1) pa_nil)) pa_nil)) (pg_name (i := 5) scRow.nd rfl (.inl rfl))
      (pss_cons (ps_set (i := 6) scRow.nd rfl (.inl rfl) (pe_op op_modN (pe_callTy call_int1 (by rfl) B.int (by decide +kernel) (pa_cons (pe_op op_add (pe_op op_add (pe_op op_mul (pv 0) pe_int) (pe_op op_mul (pv 5) pe_int)) pe_int) pa_nil)) pe_int))
       (pss_cons (ps_set (i := 6) scRow.nd rfl (.inl rfl) (pe_op op_modN (pe_callTy call_int1 (by rfl) B.int (by decide +kernel) (pa_cons (pe_op op_add (pe_op op_add (pe_op op_mul (pv 6) (pe_op op_add pe_int (pe_op op_mul pe_int (pv 5)))) (pe_op op_mul (pe_op op_mul (pv 5) (pv 5)) pe_int)) pe_int) pa_nil)) pe_int))
       (pss_one (ps_expr (pe_bm PySem.F.plainAttrs_list PySem.F.slot_list_append PySem.F.type_list_append mt_append (pv 2) (pa_cons (pe_op op_modN (pe_callTy call_int1 (by rfl) B.int (by decide +kernel) (pa_cons (pe_op op_fdivN (pv 6) pe_int) pa_nil)) (pe_ix ix_list (pv 1) (pv 5) (fun _ _ => rfl))) pa_nil)))))))
      (pss_one (ps_ret (pv 2)))))), ?_⟩
    refine ⟨Nat.zero_le _, fun o no => ?_⟩
    have s1 : Same H (upd H o (.lst [])) := same_new no
    have eo : (upd H o (.lst [])) o = some (.lst (([] : List Int).map V.int)) := upd_same
    generalize upd H o (.lst []) = H1 at s1 eo ⊢
    have more : ∀ (n : Nat) (rs : List Int) (l : Int), ls[n]? = some l → rs.length = n → (∀ (i : Nat) (l : Int), i < n → ls[i]? = some l → ∃ r, rs[i]? = some r ∧ 0 ≤ r ∧ r < l) → ∀ x : Int, ∀ (i : Nat) (m : Int), i < n + 1 → ls[i]? = some m → ∃ r, (rs ++ [x.fmod l])[i]? = some r ∧ 0 ≤ r ∧ r < m := by
      intro n rs l hl hrs hrow x i m hi hm
      have hp := hpos l (List.mem_of_getElem? hl)
      by_cases hin : i < n
      · obtain ⟨r, h1, h2, h3⟩ := hrow i m hin hm
        exact ⟨r, by rw [List.getElem?_append_left (by omega)]; exact h1, h2, h3⟩
      · obtain rfl : i = n := by omega
        rw [hl] at hm; cases hm
        exact ⟨_, by rw [List.getElem?_append_right (by omega), hrs, Nat.sub_self]; rfl, Int.fmod_nonneg_of_pos _ hp.1, Int.fmod_lt_of_pos _ hp.1⟩
    refine ⟨.int c, rfl, c, 1000000000000000000, rfl, rfl, _, rfl, ite2 (fun _ => ?_) (fun _ => ?_)⟩
    · refine ⟨.int c, rfl, c, 1000000000000000000, rfl, rfl, .ref a, rfl, a, rfl, ⟨_, s1.seq hS⟩, for_list (K := K) (a := a) (xs := ls.map V.int) (fun n σ H' => ∃ (rest : Int) (y4 y5 y6 : Option V) (rs : List Int), σ = [some (.int c), some (.ref a), some (.ref o), some (.int rest), y4, y5, y6] ∧ Same H H' ∧ H' o = some (.lst (rs.map V.int)) ∧ rs.length = n ∧
        ∀ (i : Nat) (l : Int), i < n → ls[i]? = some l → ∃ r, rs[i]? = some r ∧ 0 ≤ r ∧ r < l) ⟨_, none, none, none, [], rfl, s1, eo, rfl, fun i l h => absurd h (Nat.not_lt_zero i)⟩ (fun n σ H' _ ⟨_, _, _, _, _, _, sm, _⟩ => sm.seq hS) ?_ ?_⟩
      · rintro n x σ H' hn ⟨rest, y4, y5, y6, rs, rfl, sm, ho, hl, hrow⟩
        rw [List.getElem?_map] at hn
        cases en : ls[n]? with
        | none => rw [en] at hn; cases hn
        | some l =>
        rw [en] at hn; cases hn
        have hp := hpos l (List.mem_of_getElem? en)
        have hlt := (List.getElem?_eq_some_iff.mp en).1
        have hsz : (rs.map V.int).length < sizeLine := by rw [List.length_map]; exact small1000 (by omega)
        refine ⟨.ref o, rfl, .inl ⟨rfl, _, SqL.of ho⟩, .int rest, rfl, .inl ⟨rest, rfl, .int l, rfl, rest, l, rfl, rfl, by omega, o, _, _, rfl, rfl, ho, hsz, ?_⟩⟩
        refine ⟨.int rest, rfl, .int l, rfl, rest, l, rfl, rfl, wide_div (b := 44) (by omega) (by omega) (by decide) (by decide), ?_⟩
        exact ⟨_, _, _, _, _, rfl, same_at sm no, by rw [upd_same, map_snoc'], by rw [List.length_append, hl]; rfl, more n rs l en hl hrow rest⟩
      · rintro σ H' ⟨rest, y4, y5, y6, rs, rfl, sm, ho, hl, hrow⟩
        rw [List.length_map] at hl hrow
        exact ⟨.ref o, rfl, q H' o rs sm no ho ⟨hl, fun i l hli => hrow i l (List.getElem?_eq_some_iff.mp hli).1 hli⟩⟩
    · refine ⟨.ref a, rfl, .ref a, (ls.map V.int).length, rfl, .inl ⟨_, s1.seq hS, rfl⟩, ((ls.map V.int).length : Int), rfl, by omega, by rw [List.length_map]; omega, ?_⟩
      rw [Int.toNat_natCast, List.length_map]
      refine for_range (lo := 0) (n := ls.length) (fun n σ H' => ∃ (y3 y4 y5 y6 : Option V) (rs : List Int), σ = [some (.int c), some (.ref a), some (.ref o), y3, y4, y5, y6] ∧ Same H H' ∧ H' o = some (.lst (rs.map V.int)) ∧ rs.length = n ∧
        ∀ (i : Nat) (l : Int), i < n → ls[i]? = some l → ∃ r, rs[i]? = some r ∧ 0 ≤ r ∧ r < l) ⟨none, none, none, none, [], rfl, s1, eo, rfl, fun i l h => absurd h (Nat.not_lt_zero i)⟩ ?_ ?_
      · rintro n σ H' hn ⟨y3, y4, y5, y6, rs, rfl, sm, ho, hl, hrow⟩
        have e0 : (0 : Int) + (n : Int) = (n : Int) := by omega
        rw [e0]
        have hSn : SqL K H' a (ls.map V.int) := sm.seq hS
        have en : ls[n]? = some (ls[n]'hn) := by simp [hn]
        have hat : (ls.map V.int)[n]? = some (.int (ls[n]'hn)) := by rw [List.getElem?_map, en]; rfl
        have hp := hpos (ls[n]'hn) (List.getElem_mem hn)
        have hsz : (rs.map V.int).length < sizeLine := by rw [List.length_map]; exact small1000 (by omega)
        refine ⟨.int c, rfl, c, 48271, rfl, rfl, .inr ⟨by decide, by decide⟩, .int (n : Int), rfl, (n : Int), 69621, rfl, rfl, .inr ⟨by decide, by decide⟩, _, _, rfl, rfl, _, 11, rfl, rfl, .inl ⟨_, rfl, _, 2147483647, rfl, rfl, (show (2147483647 : Int) ≠ 0 by decide), ?_⟩⟩
        have hm0 : 0 ≤ (c * 48271 + (n : Int) * 69621 + 11).fmod 2147483647 := Int.fmod_nonneg_of_pos _ (by decide)
        have hm1 : (c * 48271 + (n : Int) * 69621 + 11).fmod 2147483647 < 2147483647 := Int.fmod_lt_of_pos _ (by decide)
        refine ⟨_, rfl, .int (n : Int), rfl, 2, (n : Int), rfl, rfl, .inl ⟨by decide, by decide⟩, 16807, _, rfl, rfl, (c * 48271 + (n : Int) * 69621 + 11).fmod 2147483647, _, rfl, rfl, .inl ⟨Int.lt_of_lt_of_le (by decide) hm0, Int.lt_trans hm1 (by decide)⟩, .int (n : Int), rfl, .int (n : Int), rfl, (n : Int), (n : Int), rfl, rfl, .inl ⟨by omega, by omega⟩, _, 40692, rfl, rfl, .inr ⟨by decide, by decide⟩, _, _, rfl, rfl, _, 7, rfl, rfl, .inl ⟨_, rfl, _, 2147483399, rfl, rfl, (show (2147483399 : Int) ≠ 0 by decide), ?_⟩⟩
        refine ⟨.ref o, rfl, .inl ⟨rfl, _, SqL.of ho⟩, _, rfl, _, 31, rfl, rfl, ⟨by decide, by decide⟩, .inl ⟨_, rfl, .ref a, rfl, .int (n : Int), rfl, a, _, (n : Int), .int (ls[n]'hn), rfl, rfl, hSn, atI_nat hat, _, ls[n]'hn, rfl, rfl, by omega, o, _, _, rfl, rfl, ho, hsz, ?_⟩⟩
        exact ⟨_, _, _, _, _, rfl, same_at sm no, by rw [upd_same, map_snoc'], by rw [List.length_append, hl]; rfl, more n rs _ en hl hrow _⟩
      · rintro σ H' ⟨y3, y4, y5, y6, rs, rfl, sm, ho, hl, hrow⟩
        exact ⟨.ref o, rfl, q H' o rs sm no ho ⟨hl, fun i l hli => hrow i l (List.getElem?_eq_some_iff.mp hli).1 hli⟩⟩


/-! ### _law_names -/
def spNames : Sp := fun vs H Q _ => ∃ (c : Int), vs = [.int c, .int 6] ∧ ∀ (H' : Hp) (p : Addr) (zs : List Str), Same H H' → H p = none → H' p = some (.lst (zs.map V.str)) → zs.length = 6 → (∀ z ∈ zs, Name z) → Q (.ref p) H'
abbrev nNa : List Str := ["_law_cell_here", "_law_many", "_law_row_here", "_law_letters", "_law_word", "_law_at", "_law_behind", "_law_k"]
theorem scNames : FnScope nNa ["_law_cell_here", "_law_many"] (defScope sNames) := ⟨rfl, rfl, rfl, by decide +kernel, rfl, by decide +kernel, by decide +kernel⟩
theorem ok_names {f f_row : Addr} {fd fd_row : FuncData} (B : Blt mg) (F : Fun K "_law_names" "_law_names" sNames f fd)
    (F_row : Fun K "_law_row" "_law_row" sRow f_row fd_row) (b_row : Binds K fd_row ["_law_cell_here", "_law_limits"] []) (g_row : mg "_law_row" = some (.ref f_row)) :
    FnOk P w K mg base CX0 2 f fd ["_law_cell_here", "_law_many"] spNames := by
  have G_row : FnOk P w K mg base CX0 1 f_row fd_row ["_law_cell_here", "_law_limits"] (spRow K) := ok_row B F_row
  refine F.ok scNames (fun vs H Q E h => ?_) (fun cdv A0 outer s H vs Q E hr h => ?_)
  · obtain ⟨c, rfl, _⟩ := h; rfl
  · obtain ⟨c, rfl, q⟩ := h
    refine ⟨_, (pss_cons (ps_set (i := 2) scNames.nd rfl (.inr rfl) (pe_call G_row hr (by rfl) g_row F_row.kp b_row .nil pass0 (pa_cons (pv 0) (pa_cons (pe_lst (pa_cons pe_int (pa_cons pe_int (pa_cons pe_int (pa_cons pe_int (pa_cons pe_int (pa_cons pe_int (pa_cons pe_int (pa_cons pe_int (pa_cons pe_int (pa_cons pe_int (pa_cons pe_int (pa_cons pe_int pa_nil))))))))))))) pa_nil))))
      (pss_cons (ps_set (i := 3) scNames.nd rfl (.inr rfl) pe_str)
      (pss_cons (ps_if (pt_cmpR op_eq (pe_ix ix_list (pv 2) pe_int (fun _ _ => rfl)) pe_int (nomark _))
      (pss_one (ps_ret (pe_slice sl_list (pe_lst (pa_cons pe_str (pa_cons pe_str (pa_cons pe_str (pa_cons pe_str (pa_cons pe_str (pa_cons pe_str (pa_cons pe_str (pa_cons pe_str pa_nil))))))))) po_none (po_some (pv 1)))))
      pss_nil)
      (pss_cons (ps_set (i := 4) scNames.nd rfl (.inr rfl) (pe_join pe_str (pe_lc (own := [("_law_k", 7)]) (g := gName 7) (tt := tYes) rfl scNames.nd (pi_list (pe_slice sl_list (pv 2) (po_some pe_int) po_none)) (blkOk_by (N := nNa) (sc := defScope sNames) (by decide +kernel)) (fun _ _ _ _ _ => (pg_name (i := 7) scNames.nd rfl (.inl rfl))) (fun _ _ _ _ _ => pts_nil) (fun _ _ _ _ _ => (pe_ix ix_str (pv 3) (pv 7) (fun _ _ => rfl))))))
      (pss_cons (ps_if (pt_cmpR op_eq (pe_ix ix_list (pv 2) pe_int (fun _ _ => rfl)) pe_int (nomark _))
      (pss_one (ps_ret (pe_lc (own := [("_law_k", 7)]) (g := gName 7) (tt := tYes) rfl scNames.nd (pi_range1 (by rfl) B.range (pa_cons (pv 1) pa_nil)) (blkOk_by (N := nNa) (sc := defScope sNames) (by decide +kernel)) (fun _ _ _ _ _ => (pg_name (i := 7) scNames.nd rfl (.inl rfl))) (fun _ _ _ _ _ => pts_nil) (fun _ _ _ _ _ => (pe_slice sl_str (pv 4) po_none (po_some (pe_op op_add (pv 7) pe_int)))))))
      pss_nil)
      (pss_cons (ps_set (i := 5) scNames.nd rfl (.inr rfl) (pe_op op_modN (pe_callTy call_int1 (by rfl) B.int (by decide +kernel) (pa_cons (pe_ix ix_list (pv 2) pe_int (fun _ _ => rfl)) pa_nil)) (pe_op op_add (pe_ix ix_list (pv 2) pe_int (fun _ _ => rfl)) pe_int)))
      (pss_cons (ps_set (i := 6) scNames.nd rfl (.inr rfl) (pe_slice sl_str (pv 4) (po_some (pe_op op_add (pv 5) pe_int)) (po_some (pe_op op_add (pe_ix ix_list (pv 2) pe_int (fun _ _ => rfl)) pe_int))))
      (pss_one (ps_ret (pe_lc (own := [("_law_k", 7)]) (g := gName 7) (tt := tYes) rfl scNames.nd (pi_range1 (by rfl) B.range (pa_cons (pv 1) pa_nil)) (blkOk_by (N := nNa) (sc := defScope sNames) (by decide +kernel)) (fun _ _ _ _ _ => (pg_name (i := 7) scNames.nd rfl (.inl rfl))) (fun _ _ _ _ _ => pts_nil) (fun _ _ _ _ _ => (pe_op op_add_str (pe_op op_add_str (pe_slice sl_str (pv 4) po_none (po_some (pv 5))) (pe_ix ix_str (pv 3) (pe_op op_modN (pe_callTy call_int1 (by rfl) B.int (by decide +kernel) (pa_cons (pe_op op_add (pe_ix (show IxR _ (rIxL K) from ix_list) (pv 2) pe_int (fun _ _ => rfl)) (pv 7)) pa_nil)) pe_int) (fun _ _ => rfl))) (pv 6))))))))))))), ?_⟩
    refine ⟨.int c, rfl, by show 12 ≤ sizeLine; decide, fun l0 n0 => ⟨c, l0, [3, 8, 8, 26, 26, 26, 26, 26, 26, 26, 26, 26], rfl, SqL.of upd_same, by decide, by decide, fun H1 R rs s1 nR hR hrow => ?_⟩⟩
    have s01 := (same_new n0 (o := .lst [.int 3, .int 8, .int 8, .int 26, .int 26, .int 26, .int 26, .int 26, .int 26, .int 26, .int 26, .int 26])).trans s1
    obtain ⟨g0, a0, b0, d0⟩ := row_at hrow (i := 0) (l := 3) rfl
    obtain ⟨g1, a1, b1, d1⟩ := row_at hrow (i := 1) (l := 8) rfl
    obtain ⟨g2, a2, b2, d2⟩ := row_at hrow (i := 2) (l := 8) rfl
    obtain ⟨g3, a3, b3, d3⟩ := row_at hrow (i := 3) (l := 26) rfl
    refine ⟨.ref R, rfl, R, _, 0, .int g0, rfl, rfl, SqL.of hR, atI_nat (j := 0) (i_at a0), rfl, _, rfl, ite2 (fun _ => ?_) (fun _ => ?_)⟩
    · refine ⟨by show 8 ≤ sizeLine; decide, fun l1 n1 => ⟨.int 6, rfl, 6, rfl, l1, words8.map V.str, rfl, SqL.of upd_same, fun l2 n2 => ?_⟩⟩
      have e : cutV (words8.map V.str) none (some 6) = (words8.take 6).map V.str := by
        unfold cutV
        rw [HT.sIx_none, show (6 : Int) = ((6 : Nat) : Int) from rfl, HT.sIx_nat]; rfl
      rw [e]
      have n3 : H1 l2 = none := by
        have hne : l2 ≠ l1 := fun h => by subst h; rw [upd_same] at n2; cases n2
        rw [upd_ne hne] at n2; exact n2
      refine q _ l2 (words8.take 6) (s01.trans ((same_new n1).trans (same_new n2))) (s01.free n3) upd_same (by decide +kernel) fun z hz => ?_
      obtain ⟨h1, h2⟩ := words8_ok z (List.mem_of_mem_take hz)
      exact name_mk h1.1 h1.2 (by rw [List.all_eq_true] at h2; exact h2)
    · -- the word
      have hcut : cutV (rs.map V.int) (some 4) none = (rs.drop 4).map V.int := by
        unfold cutV
        have hl := hrow.1
        have hl' : rs.length = 12 := hl
        rw [show (4 : Int) = ((4 : Nat) : Int) from rfl, HT.sIx_nat, HT.sIx_none, List.length_map, hl']
        show ((rs.map V.int).drop 4).take 8 = _
        rw [← List.map_drop, List.take_of_length_le (by rw [List.length_map, List.length_drop, hl']; decide)]
      have hgl : (rs.drop 4).length = 8 := by rw [List.length_drop, show rs.length = 12 from hrow.1]
      have hgs : ∀ (i : Nat) g, (rs.drop 4)[i]? = some g → 0 ≤ g ∧ g < 26 := fun i g hg => by
        have hi : i < 8 := by rw [← hgl]; exact (List.getElem?_eq_some_iff.mp hg).1
        rw [List.getElem?_drop] at hg
        have hl26 : ([3, 8, 8, 26, 26, 26, 26, 26, 26, 26, 26, 26] : List Int)[4 + i]? = some 26 := by
          match i, hi with
          | 0, _ => rfl
          | 1, _ => rfl
          | 2, _ => rfl
          | 3, _ => rfl
          | 4, _ => rfl
          | 5, _ => rfl
          | 6, _ => rfl
          | 7, _ => rfl
          | i + 8, h => omega
        obtain ⟨r, e1, e2, e3⟩ := row_at hrow hl26
        rw [hg] at e1; cases e1; exact ⟨e2, e3⟩
      refine ⟨⟨_, rfl⟩, .ref R, rfl, 4, rfl, R, rs.map V.int, rfl, SqL.of hR, fun l1 n1 => ⟨l1, rfl, ⟨_, SqL.of upd_same⟩, fun D hD => ?_⟩⟩
      rw [hcut] at hD ⊢
      have sL := same_new n1 (o := .lst ((rs.drop 4).map V.int))
      have eL : (upd H1 l1 (.lst ((rs.drop 4).map V.int))) l1 = some (.lst ((rs.drop 4).map V.int)) := upd_same
      generalize upd H1 l1 (.lst ((rs.drop 4).map V.int)) = H2 at sL eL hD ⊢
      have s02 := s01.trans sL
      have hR2 := sL _ _ hR
      refine lc_list (K := K) (a := l1) (xs := (rs.drop 4).map V.int) (fun i H' => ∃ cs : List Nat, H' D = some (.lst ((cs.map fun c => (⟨#[c]⟩ : Str)).map V.str)) ∧ cs.length = i ∧ (∀ c ∈ cs, isL c = true) ∧ Same H2 H')
        ⟨[], upd_same, rfl, fun c h => absurd h List.not_mem_nil, same_new hD⟩ (fun i H' _ ⟨_, _, _, _, s⟩ => SqL.of (s _ _ eL)) ?_ ?_
      · rintro i v H' hi ⟨cs, hD', hcl, hcL, sm⟩
        have hi8 : i < 8 := by have := (List.getElem?_eq_some_iff.mp hi).1; rw [List.length_map, hgl] at this; exact this
        rw [List.getElem?_map] at hi
        cases en : (rs.drop 4)[i]? with
        | none => rw [en] at hi; cases hi
        | some g =>
        rw [en] at hi; cases hi
        obtain ⟨e1, e2⟩ := hgs i g en
        obtain ⟨ch, c1, c2⟩ := pick (z := letters) e1 (by rw [letters_len]; omega)
        refine ⟨rfl, .str letters, rfl, .int g, rfl, letters, g, ch, rfl, rfl, by rw [letters_len]; decide, c1, _, hD', small1000 (by rw [List.length_map, List.length_map]; omega), cs ++ [ch], by rw [upd_same, map_snocS]; simp only [List.map_append, List.map_cons, List.map_nil], by rw [List.length_append, hcl]; rfl, fun x hx => ?_, same_at sm hD⟩
        rcases List.mem_append.mp hx with h | h
        · exact hcL x h
        · rw [List.mem_singleton.mp h]; exact letters_L ch c2
      · rintro H3 ⟨cs, hD', hcl, hcL, sm3⟩
        rw [List.length_map, hgl] at hcl
        have hsum : ((cs.map fun c => (⟨#[c]⟩ : Str)).map (·.length)).sum + (cs.map fun c => (⟨#[c]⟩ : Str)).length * (Str.ofString "").length ≤ 16777216 := by
          rw [sum_ones, List.length_map, hcl, show (Str.ofString "").length = 0 from by decide +kernel]; decide
        refine ⟨Str.ofString "", D, cs.map fun c => (⟨#[c]⟩ : Str), rfl, rfl, .inl (SqL.of hD'), hsum, ?_⟩
        have hz := join_ones cs
        generalize Txt.join (Str.ofString "") (cs.map fun c => (⟨#[c]⟩ : Str)) = z8 at hz ⊢
        have hzl : z8.length = 8 := by rw [← tl_len, hz, hcl]
        have hzL : ∀ c ∈ tl z8, isL c = true := by rw [hz]; exact hcL
        have z16 : z8.length ≤ sizeLine := by rw [hzl]; decide
        have s03 := s02.trans sm3
        have hR3 := sm3 _ _ hR2
        refine ⟨.ref R, rfl, R, _, 0, .int g0, rfl, rfl, SqL.of hR3, atI_nat (j := 0) (i_at a0), rfl, _, rfl, ite2 (fun _ => ?_) (fun _ => ?_)⟩
        · refine ⟨.int 6, rfl, 6, rfl, by decide, by decide, fun D2 hD2 => ?_⟩
          refine lc_range (lo := 0) (n := 6) (fun i H' => ∃ zs : List Str, H' D2 = some (.lst (zs.map V.str)) ∧ zs.length = i ∧ (∀ z ∈ zs, Name z) ∧ Same H3 H') ⟨[], upd_same, rfl, fun z h => absurd h List.not_mem_nil, same_new hD2⟩ ?_ ?_
          · rintro i H' hi ⟨zs, hzs, hl, hn, sm⟩
            have e0 : (0 : Int) + (i : Int) + 1 = ((i + 1 : Nat) : Int) := by omega
            refine ⟨rfl, .str z8, rfl, .int (0 + (i : Int)), rfl, _, 1, rfl, rfl, _, rfl, z8, rfl, z16, ?_⟩
            dsimp only
            rw [e0]
            refine ⟨_, hzs, small1000 (by rw [List.length_map]; omega), zs ++ [cutS z8 none (some ((i + 1 : Nat) : Int))], by rw [upd_same, map_snocS], by rw [List.length_append, hl]; rfl, fun x hx => ?_, same_at sm hD2⟩
            rcases List.mem_append.mp hx with h | h
            · exact hn x h
            · rw [List.mem_singleton.mp h]
              refine name_mk ?_ ?_ fun c hc => ?_
              · rw [cut_to, List.length_take, tl_len, hzl]; omega
              · rw [cut_to, List.length_take, tl_len, hzl]; omega
              · rw [cut_to] at hc; exact hzL c (List.mem_of_mem_take hc)
          · rintro H' ⟨zs, hzs, hl, hn, sm⟩
            exact q H' D2 zs (s03.trans sm) (s03.free hD2) hzs hl hn
        · refine ⟨.ref R, rfl, R, _, 2, .int g2, rfl, rfl, SqL.of hR3, atI_nat (j := 2) (i_at a2), .inl ⟨g2, rfl, .ref R, rfl, R, _, 1, .int g1, rfl, rfl, SqL.of hR3, atI_nat (j := 1) (i_at a1), g1, 1, rfl, rfl, g2, g1 + 1, rfl, rfl, (show g1 + 1 ≠ 0 by omega), ?_⟩⟩
          have f0 : 0 ≤ g2.fmod (g1 + 1) := Int.fmod_nonneg_of_pos _ (by omega)
          have f1 : g2.fmod (g1 + 1) < g1 + 1 := Int.fmod_lt_of_pos _ (by omega)
          dsimp only
          generalize g2.fmod (g1 + 1) = at0 at f0 f1 ⊢
          obtain ⟨n, rfl⟩ : ∃ n : Nat, at0 = (n : Int) := ⟨at0.toNat, by omega⟩
          obtain ⟨m, rfl⟩ : ∃ n : Nat, g1 = (n : Int) := ⟨g1.toNat, by omega⟩
          refine ⟨.str z8, rfl, .int (n : Int), rfl, (n : Int), 1, rfl, rfl, _, rfl, .ref R, rfl, R, _, 1, .int (m : Int), rfl, rfl, SqL.of hR3, atI_nat (j := 1) (i_at a1), (m : Int), 1, rfl, rfl, _, rfl, z8, rfl, z16, ?_⟩
          have hbt : tl (cutS z8 (some ((n : Int) + 1)) (some ((m : Int) + 1))) = ((tl z8).drop (n + 1)).take (m - n) := by
            rw [show ((n : Int) + 1) = ((n + 1 : Nat) : Int) by omega, show ((m : Int) + 1) = ((m + 1 : Nat) : Int) by omega, cut_tl, hzl, Nat.min_eq_left (by omega), Nat.min_eq_left (by omega)]
            congr 1; omega
          generalize cutS z8 (some ((n : Int) + 1)) (some ((m : Int) + 1)) = bh at hbt ⊢
          have hbl : bh.length = m - n := by rw [← tl_len, hbt, List.length_take, List.length_drop, tl_len, hzl]; omega
          refine ⟨.int 6, rfl, 6, rfl, by decide, by decide, fun D2 hD2 => ?_⟩
          refine lc_range (lo := 0) (n := 6) (fun i H' => ∃ zs : List Str, H' D2 = some (.lst (zs.map V.str)) ∧ zs.length = i ∧ (∀ z ∈ zs, Name z) ∧ Same H3 H') ⟨[], upd_same, rfl, fun z h => absurd h List.not_mem_nil, same_new hD2⟩ ?_ ?_
          · rintro i H' hi ⟨zs, hzs, hl, hn, sm⟩
            have h26 : 0 ≤ (g3 + (0 + (i : Int))).fmod 26 ∧ (g3 + (0 + (i : Int))).fmod 26 < 26 := ⟨Int.fmod_nonneg_of_pos _ (by decide), Int.fmod_lt_of_pos _ (by decide)⟩
            obtain ⟨ch, c1, c2⟩ := pick (z := letters) h26.1 (by rw [letters_len]; omega)
            have hat : (cutS z8 none (some (n : Int))).length = n := by rw [← tl_len, cut_to, List.length_take, tl_len, hzl]; omega
            refine ⟨rfl, .str z8, rfl, .int (n : Int), rfl, (n : Int), rfl, z8, rfl, z16, .str letters, rfl, .ref R, rfl, R, _, 3, .int g3, rfl, rfl, SqL.of (sm _ _ hR3), atI_nat (j := 3) (i_at a3), .int (0 + (i : Int)), rfl, g3, _, rfl, rfl, .inl ⟨_, rfl, _, 26, rfl, rfl, (show (26 : Int) ≠ 0 by decide), letters, _, ch, rfl, rfl, by rw [letters_len]; decide, c1, _, _, rfl, rfl, ?_, .str bh, rfl, _, _, rfl, rfl, ?_, ?_⟩⟩
            · rw [hat, sizeLine_eq]; show n + 1 ≤ _; omega
            · rw [len_add, hat, hbl, sizeLine_eq]; show n + 1 + (m - n) ≤ _; omega
            refine ⟨_, hzs, small1000 (by rw [List.length_map]; omega), zs ++ [cutS z8 none (some (n : Int)) ++ ⟨#[ch]⟩ ++ bh], by rw [upd_same, map_snocS], by rw [List.length_append, hl]; rfl, fun x hx => ?_, same_at sm hD2⟩
            rcases List.mem_append.mp hx with h | h
            · exact hn x h
            · rw [List.mem_singleton.mp h]
              have e : tl (cutS z8 none (some (n : Int)) ++ (⟨#[ch]⟩ : Str) ++ bh) = (tl z8).take n ++ [ch] ++ ((tl z8).drop (n + 1)).take (m - n) := by rw [tl_add, tl_add, cut_to, hbt]
              have hlen : (tl (cutS z8 none (some (n : Int)) ++ (⟨#[ch]⟩ : Str) ++ bh)).length = m + 1 := by
                rw [tl_len, len_add, len_add, hat, hbl]; show n + 1 + (m - n) = m + 1; omega
              refine name_mk (by rw [hlen]; omega) (by rw [hlen]; omega) fun c hc => ?_
              rw [e] at hc
              rcases List.mem_append.mp hc with h1 | h1
              · rcases List.mem_append.mp h1 with h2 | h2
                · exact hzL c (List.mem_of_mem_take h2)
                · rw [List.mem_singleton.mp h2]; exact letters_L ch c2
              · exact hzL c (List.mem_of_mem_drop (List.mem_of_mem_take h1))
          · rintro H' ⟨zs, hzs, hl, hn, sm⟩
            exact q H' D2 zs (s03.trans sm) (s03.free hD2) hzs hl hn
end
end K09

set_option maxRecDepth 100000
set_option maxHeartbeats 4000000
namespace K09
open PySem PySem.Spec PyProof.Rows L2
/-! ### good trees -/
mutual
def good : T → Prop
  | .txt _ => True
  | .el k m cs => Name k ∧ Mark m ∧ goods cs
def goods : List T → Prop
  | [] => True
  | c :: cs => good c ∧ goods cs
end
theorem goods_append {as bs : List T} : goods (as ++ bs) ↔ goods as ∧ goods bs := by
  induction as with
  | nil => simp [goods]
  | cons a as ih => simp only [List.cons_append, goods, ih, and_assoc]
theorem goods_mem {cs : List T} (h : goods cs) {c : T} (hc : c ∈ cs) : good c := by
  induction cs with
  | nil => simp at hc
  | cons a as ih =>
    rcases List.mem_cons.mp hc with rfl | h1
    · exact h.1
    · exact ih h.2 h1
theorem good_at {t u : T} {ns : List Int} (h : atP t ns = some u) (g : good t) : good u := by
  induction ns generalizing t with
  | nil => simp [atP] at h; subst h; exact g
  | cons i r ih =>
    simp only [atP] at h
    cases e : step1 t i with
    | none => rw [e] at h; cases h
    | some x =>
      rw [e] at h
      refine ih (t := x) h ?_
      cases t with
      | txt z => simp [step1, kids] at e
      | el k m cs =>
        simp only [step1, kids] at e
        split at e
        · exact goods_mem g.2.2 (List.mem_of_getElem? e)
        · cases e
theorem AllT.app {H : Hp} {vs ws : List V} {cs ds : List T} (h : AllT H vs cs) (h2 : AllT H ws ds) : AllT H (vs ++ ws) (cs ++ ds) := by
  obtain ⟨hl, hi⟩ := h
  obtain ⟨hl2, hi2⟩ := h2
  refine ⟨by rw [List.length_append, List.length_append, hl, hl2], fun i v c a b => ?_⟩
  by_cases hlt : i < vs.length
  · rw [List.getElem?_append_left hlt] at a
    rw [List.getElem?_append_left (by omega)] at b
    exact hi i v c a b
  · rw [List.getElem?_append_right (by omega)] at a
    rw [List.getElem?_append_right (by omega)] at b
    exact hi2 _ v c a (by rw [hl]; exact b)
theorem AllT.one {H : Hp} {v : V} {c : T} (h : IsT H v c) : AllT H [v] [c] := AllT.snoc AllT.nil h
def TupT (H : Hp) (v : V) (cs : List T) : Prop := ∃ b vs, v = .ref b ∧ H b = some (.tup vs) ∧ AllT H vs cs
theorem TupT.mono {H H' : Hp} (s : SameT H H') {v : V} {cs : List T} (h : TupT H v cs) : TupT H' v cs := by
  obtain ⟨b, vs, e, hb, ha⟩ := h
  exact ⟨b, vs, e, s _ _ hb, ha.mono s⟩
def tot : List (List T) → Nat
  | [] => 0
  | f :: fs => szs f + tot fs
theorem tot_set : ∀ (fs : List (List T)) (i : Nat) (f g : List T), fs[i]? = some g → tot (fs.set i f) + szs g = tot fs + szs f
  | [], i, f, g, h => by simp at h
  | x :: fs, 0, f, g, h => by simp at h; subst h; simp only [List.set_cons_zero, tot]; omega
  | x :: fs, i + 1, f, g, h => by
    have := tot_set fs i f g (by simpa using h)
    simp only [List.set_cons_succ, tot]; omega
theorem tot_rep (n : Nat) : tot (List.replicate n []) = 0 := by
  induction n with
  | zero => rfl
  | succ n ih => simp only [List.replicate_succ, tot, szs, ih]
def Frs (H : Hp) (bs : List V) (fs : List (List T)) : Prop := bs.length = fs.length ∧ ∀ (i : Nat) v f, bs[i]? = some v → fs[i]? = some f → TupT H v f
theorem Frs.mono {H H' : Hp} (s : SameT H H') {bs : List V} {fs : List (List T)} (h : Frs H bs fs) : Frs H' bs fs := ⟨h.1, fun i v f a b => (h.2 i v f a b).mono s⟩
theorem Frs.set {H : Hp} {bs : List V} {fs : List (List T)} {j : Nat} {v : V} {f : List T} (h : Frs H bs fs) (hv : TupT H v f) : Frs H (bs.set j v) (fs.set j f) := by
  refine ⟨by rw [List.length_set, List.length_set]; exact h.1, fun i u g a b => ?_⟩
  by_cases e : j = i
  · subst e
    have h1 := (List.getElem?_eq_some_iff.mp a).1
    rw [List.length_set] at h1
    rw [List.getElem?_set_self h1] at a
    rw [List.getElem?_set_self (by rw [← h.1]; exact h1)] at b
    cases a; cases b; exact hv
  · rw [List.getElem?_set_ne e] at a b
    exact h.2 i u g a b
theorem catA {K : PySem.W.Frag} {H : Hp} {Q : VK} {a b : Addr} {xs ys : List V} (ha : H a = some (.tup xs)) (hb : H b = some (.tup ys)) (hl : xs.length + ys.length ≤ 1000)
    (q : ∀ H' p, Same H H' → H' p = some (.tup (xs ++ ys)) → Q (.ref p) H') : rCatA K (.ref a) (.ref b) H Q :=
  ⟨a, b, xs, ys, rfl, rfl, SqT.of ha, SqT.of hb, Nat.le_trans hl (by decide), fun h => q H b (Same.refl _) (by rw [h]; exact hb), fun _ h => q H a (Same.refl _) (by rw [h, List.append_nil]; exact ha), fun _ _ p np => q _ p (same_new np) upd_same⟩
/-! ### the limits of a tree -/
def lim5 (n : Nat) : List Int := [9, 4, 20, 3] ++ (List.replicate n [4, 3, 4, 3, 3]).flatten
theorem lim5_succ (n : Nat) : lim5 n ++ [4, 3, 4, 3, 3] = lim5 (n + 1) := by
  unfold lim5; rw [List.replicate_succ', List.flatten_append]; simp
theorem lim5_len (n : Nat) : (lim5 n).length = 4 + 5 * n := by
  induction n with
  | zero => rfl
  | succ n ih => rw [← lim5_succ, List.length_append, ih]; simp; omega
theorem lim5_mem {n : Nat} {l : Int} (h : l ∈ lim5 n) : 0 < l ∧ l < 100 := by
  induction n with
  | zero => simp [lim5] at h; omega
  | succ n ih =>
    rw [← lim5_succ, List.mem_append] at h
    rcases h with h | h
    · exact ih h
    · simp at h; omega
theorem lim5_at {n : Nat} : ∀ {k j : Nat}, k < n → j < 5 → (lim5 n)[5 * k + 4 + j]? = ([4, 3, 4, 3, 3] : List Int)[j]? := by
  induction n with
  | zero => intro k j h; omega
  | succ n ih =>
    intro k j h hj
    rw [← lim5_succ]
    have hl := lim5_len n
    by_cases hk : k < n
    · rw [List.getElem?_append_left (by omega)]; exact ih hk hj
    · obtain rfl : k = n := by omega
      rw [List.getElem?_append_right (by omega), hl, show 5 * k + 4 + j - (4 + 5 * k) = j by omega]
def ItemAt (H : Hp) (v : V) (d : Nat) (k m : Str) : Prop := ∃ t a b, v = .ref t ∧ H t = some (.tup [.int (d : Int), .str k, .str m, .int a, .int b])
def Items (H : Hp) (us : List V) : Prop := ∀ (i : Nat) v, us[i]? = some v → ∃ d k m, ItemAt H v d k m ∧ Name k ∧ Mark m ∧ (i = 0 → d = 0) ∧ (0 < i → 1 ≤ d ∧ d ≤ i)
theorem Items.tups {H H' : Hp} {us : List V} (h : Items H us) (s : SameT H H') : Items H' us := fun i v hv => by
  obtain ⟨d, k, m, ⟨t, a, b, e, ht⟩, r⟩ := h i v hv
  exact ⟨d, k, m, ⟨t, a, b, e, s _ _ ht⟩, r⟩
theorem Items.snoc {H : Hp} {us : List V} {v : V} (h : Items H us) (hv : ∃ d k m, ItemAt H v d k m ∧ Name k ∧ Mark m ∧ (us.length = 0 → d = 0) ∧ (0 < us.length → 1 ≤ d ∧ d ≤ us.length)) : Items H (us ++ [v]) := fun i u a => by
  by_cases hlt : i < us.length
  · rw [List.getElem?_append_left hlt] at a; exact h i u a
  · have h2 := (List.getElem?_eq_some_iff.mp a).1
    rw [List.length_append, List.length_singleton] at h2
    obtain rfl : i = us.length := by omega
    rw [List.getElem?_append_right (Nat.le_refl _), Nat.sub_self] at a
    cases a; exact hv
theorem dstep (d i : Nat) (hd : d ≤ i - 1) (hi : 0 < i) (g : Nat) (hg : g < 4) : ∃ d' : Nat, ([V.int ((d : Int) + 1), V.int (if (1 : Int) > (d : Int) then 1 else (d : Int)), V.int (if (1 : Int) > (d : Int) - 1 then 1 else (d : Int) - 1), V.int 1] : List V)[g]? = some (.int (d' : Int)) ∧ 1 ≤ d' ∧ d' ≤ i := by
  match g, hg with
  | 0, _ => exact ⟨d + 1, by simp, by omega, by omega⟩
  | 1, _ =>
    by_cases h : (1 : Int) > (d : Int)
    · exact ⟨1, by simp only [List.getElem?_cons_succ, List.getElem?_cons_zero]; rw [if_pos h]; rfl, by omega, by omega⟩
    · exact ⟨d, by simp only [List.getElem?_cons_succ, List.getElem?_cons_zero]; rw [if_neg h], by omega, by omega⟩
  | 2, _ =>
    by_cases h : (1 : Int) > (d : Int) - 1
    · exact ⟨1, by simp only [List.getElem?_cons_succ, List.getElem?_cons_zero]; rw [if_pos h]; rfl, by omega, by omega⟩
    · exact ⟨d - 1, by simp only [List.getElem?_cons_succ, List.getElem?_cons_zero]; rw [if_neg h, show ((d - 1 : Nat) : Int) = (d : Int) - 1 by omega], by omega, by omega⟩
  | 3, _ => exact ⟨1, rfl, by omega, by omega⟩
  | g + 4, h => omega
theorem rep1 (v : V) (n : Nat) : (List.replicate n [v]).flatten = List.replicate n v := by
  induction n with
  | zero => rfl
  | succ n ih => rw [List.replicate_succ, List.flatten_cons, ih]; rfl
end K09

set_option maxRecDepth 100000
set_option maxHeartbeats 4000000
namespace K09
open PySem PySem.Spec PyProof.Rows L2
theorem ix_nat {n j : Nat} (h : j < n) : ixN n (j : Int) = some j := by
  unfold ixN
  rw [if_pos (Int.natCast_nonneg j), if_pos (by omega), Int.toNat_natCast]
theorem last_of {H : Hp} {vs : List V} {pre : List T} {u : T} (h : AllT H vs (pre ++ [u])) : ∃ x, atI vs (-1) = some x ∧ IsT H x u := by
  have hl := h.1
  rw [List.length_append, List.length_singleton] at hl
  have hne : vs ≠ [] := by intro e; rw [e] at hl; simp at hl
  refine ⟨vs.getLast hne, ?_, ?_⟩
  · have := atI_last vs.dropLast (vs.getLast hne)
    rw [List.dropLast_concat_getLast hne] at this; exact this
  · refine h.2 pre.length _ u ?_ ?_
    · rw [List.getLast_eq_getElem, List.getElem?_eq_getElem (by omega)]
      congr 1
      simp only [hl]; rfl
    · rw [List.getElem?_append_right (Nat.le_refl _), Nat.sub_self]; rfl
theorem at0_set {fs : List (List T)} {j : Nat} {f : List T} (h : 0 < j) : (fs.set j f)[0]? = fs[0]? := by
  rw [List.getElem?_set_ne (by omega)]
section
variable {P : Program} {w : World} {K : PySem.W.Frag} {mg : Str → Option Value} {base : Heap} {t1 t2 t3 t4 t5 t6 : Tok}
/-! ### _law_tree -/
def spTree (K : PySem.W.Frag) : Sp := fun vs H Q _ => ∃ (c : Int) (ka ma : Addr) (ks ms : List Str), vs = [.int c, .ref ka, .ref ma] ∧ H ka = some (.lst (ks.map V.str)) ∧ ks.length = 3 ∧ (∀ z ∈ ks, Name z) ∧ H ma = some (.lst (ms.map V.str)) ∧ ms.length = 4 ∧ (∀ z ∈ ms, Mark z) ∧
  ∀ H' v k m cs, Same H H' → IsT H' v (.el k m cs) → sz (.el k m cs) ≤ 200 → good (.el k m cs) → Q v H'
abbrev nTr : List Str := ["_law_cell_here", "_law_kinds", "_law_marks", "_law_limits", "_law_k", "_law_row_here", "_law_items", "_law_depth", "_law_part", "_law_below", "_law_kind", "_law_mark", "_law_ahead", "_law_behind", "_law_inside", "_law_front", "_law_tree_here", "_law_leaf"]
theorem scTree : FnScope nTr ["_law_cell_here", "_law_kinds", "_law_marks"] (defScope sTree) := ⟨rfl, rfl, rfl, by decide +kernel, rfl, by decide +kernel, by decide +kernel⟩
theorem sAt {zs : List Str} {i : Nat} {z : Str} (h : zs[i]? = some z) : (zs.map V.str)[i]? = some (.str z) := by rw [List.getElem?_map, h]; rfl
set_option maxHeartbeats 8000000 in
theorem ok_tree {f f_row : Addr} {fd fd_row : FuncData} (B : Blt mg) (F : Fun K "_law_tree" "_law_tree" sTree f fd)
    (F_row : Fun K "_law_row" "_law_row" sRow f_row fd_row) (b_row : Binds K fd_row ["_law_cell_here", "_law_limits"] []) (g_row : mg "_law_row" = some (.ref f_row)) :
    FnOk P w K mg base CX0 2 f fd ["_law_cell_here", "_law_kinds", "_law_marks"] (spTree K) := by
  have G_row : FnOk P w K mg base CX0 1 f_row fd_row ["_law_cell_here", "_law_limits"] (spRow K) := ok_row B F_row
  refine F.ok scTree (fun vs H Q E h => ?_) (fun cdv A0 outer s H vs Q E hr h => ?_)
  · obtain ⟨c, ka, ma, ks, ms, rfl, _⟩ := h; rfl
  · obtain ⟨c, ka, ma, ks, ms, rfl, hka, hkl, hkn, hma, hml, hmn, q⟩ := h
    refine ⟨_, (pss_cons (ps_set (i := 3) scTree.nd rfl (.inl rfl) (pe_lst (pa_cons pe_int (pa_cons pe_int (pa_cons pe_int (pa_cons pe_int pa_nil))))))
      (pss_cons (ps_for (PassesOwn.never) rfl (pi_range1 (by rfl) B.range (pa_cons pe_int pa_nil)) (pg_name (i := 4) scTree.nd rfl (.inl rfl))
      (pss_one (ps_set (i := 3) scTree.nd rfl (.inl rfl) (pe_op op_cat (pv 3) (pe_lst (pa_cons pe_int (pa_cons pe_int (pa_cons pe_int (pa_cons pe_int (pa_cons pe_int pa_nil))))))))))
      (pss_cons (ps_set (i := 5) scTree.nd rfl (.inl rfl) (pe_call G_row hr (by rfl) g_row F_row.kp b_row .nil pass0 (pa_cons (pv 0) (pa_cons (pv 3) pa_nil))))
      (pss_cons (ps_set (i := 6) scTree.nd rfl (.inl rfl) (pe_lst pa_nil))
      (pss_cons (ps_set (i := 7) scTree.nd rfl (.inl rfl) pe_int)
      (pss_cons (ps_for (PassesOwn.never) rfl (pi_range1 (by rfl) B.range (pa_cons (pe_op op_add (pe_ix ix_list (pv 5) pe_int (fun _ _ => rfl)) pe_int) pa_nil)) (pg_name (i := 4) scTree.nd rfl (.inl rfl))
      (pss_cons (ps_set (i := 8) scTree.nd rfl (.inl rfl) (pe_slice sl_list (pv 5) (po_some (pe_op op_add (pe_op op_mul pe_int (pv 4)) pe_int)) (po_some (pe_op op_add (pe_op op_mul pe_int (pv 4)) pe_int))))
       (Evl.pss_cut (ps_if (pt_cmpR op_gt (pv 4) pe_int (nomark _))
       (pss_one (ps_set (i := 7) scTree.nd rfl (.inl rfl) (pe_ix ix_list (pe_lst (pa_cons (pe_op op_add (pv 7) pe_int) (pa_cons (pe_callB (call_max2 rfl) (by rfl) B.max (by decide +kernel) (pa_cons (pv 7) (pa_cons pe_int pa_nil))) (pa_cons (pe_callB (call_max2 rfl) (by rfl) B.max (by decide +kernel) (pa_cons (pe_op op_sub (pv 7) pe_int) (pa_cons pe_int pa_nil))) (pa_cons pe_int pa_nil))))) (pe_ix ix_list (pv 8) pe_int (fun _ _ => rfl)) (fun _ _ => rfl))))
       pss_nil)
       (pss_one (ps_expr (pe_bm PySem.F.plainAttrs_list PySem.F.slot_list_append PySem.F.type_list_append mt_append (pv 6) (pa_cons (pe_tup (pa_cons (pv 7) (pa_cons (pe_ix ix_list (pv 1) (pe_ix ix_list (pv 8) pe_int (fun _ _ => rfl)) (fun _ _ => rfl)) (pa_cons (pe_ix ix_list (pv 2) (pe_ix ix_list (pv 8) pe_int (fun _ _ => rfl)) (fun _ _ => rfl)) (pa_cons (pe_ix ix_list (pv 8) pe_int (fun _ _ => rfl)) (pa_cons (pe_ix ix_list (pv 8) pe_int (fun _ _ => rfl)) pa_nil)))))) pa_nil)))))))
      (pss_cons (ps_set (i := 9) scTree.nd rfl (.inl rfl) (pe_op op_rep (pe_lst (pa_cons (pe_tup pa_nil) pa_nil)) (pe_op op_add (pe_callB call_len (by rfl) B.len PySem.boot_len (pa_cons (pv 6) pa_nil)) pe_int)))
      (pss_cons (ps_for (PassesOwn.never) rfl (pi_range3 (by rfl) B.range (pa_cons (pe_op op_sub (pe_callB call_len (by rfl) B.len PySem.boot_len (pa_cons (pv 6) pa_nil)) pe_int) (pa_cons (pe_un un_neg pe_int) (pa_cons (pe_un un_neg pe_int) pa_nil)))) (pg_name (i := 4) scTree.nd rfl (.inl rfl))
      (pss_cons (ps_asg (pe_ix ix_list (pv 6) (pv 4) (fun _ _ => rfl)) (pg_tup rfl (pgs_cons (pg_name (i := 7) scTree.nd rfl (.inl rfl)) (pgs_cons (pg_name (i := 10) scTree.nd rfl (.inl rfl)) (pgs_cons (pg_name (i := 11) scTree.nd rfl (.inl rfl)) (pgs_cons (pg_name (i := 12) scTree.nd rfl (.inl rfl)) (pgs_cons (pg_name (i := 13) scTree.nd rfl (.inl rfl)) pgs_nil)))))))
       (pss_cons (ps_set (i := 14) scTree.nd rfl (.inl rfl) (pe_ix ix_list (pv 9) (pe_op op_add (pv 7) pe_int) (fun _ _ => rfl)))
       (Evl.pss_cut (ps_if (pt_cmpR op_eq (pv 13) pe_int (nomark _))
       (pss_one (ps_set (i := 14) scTree.nd rfl (.inl rfl) (pe_op op_catA (pv 14) (pe_tup (pa_cons pe_str pa_nil)))))
       pss_nil)
       (pss_cons (ps_asg (pe_tup pa_nil) (pg_sub (pv 9) (pe_op op_add (pv 7) pe_int) set_list))
       (pss_cons (ps_set (i := 15) scTree.nd rfl (.inl rfl) (pe_tup (pa_cons (pe_tup (pa_cons (pv 10) (pa_cons (pv 11) (pa_cons (pv 14) pa_nil)))) pa_nil)))
       (Evl.pss_cut (ps_if (pt_cmpR op_eq (pv 12) pe_int (nomark _))
       (pss_one (ps_set (i := 15) scTree.nd rfl (.inl rfl) (pe_op op_catA (pe_tup (pa_cons pe_str pa_nil)) (pv 15))))
       pss_nil)
       (pss_one (ps_asg (pe_op op_catA (pv 15) (pe_ix ix_list (pv 9) (pv 7) (fun _ _ => rfl))) (pg_sub (pv 9) (pv 7) set_list))))))))))
      (pss_cons (ps_set (i := 16) scTree.nd rfl (.inl rfl) (pe_ix ix_tup (pe_ix ix_list (pv 9) pe_int (fun _ _ => rfl)) (pe_un un_neg pe_int) (fun _ _ => rfl)))
      (pss_cons (ps_set (i := 17) scTree.nd rfl (.inl rfl) (pe_tup (pa_cons (pe_ix ix_list (pv 1) pe_int (fun _ _ => rfl)) (pa_cons pe_str (pa_cons (pe_tup pa_nil) pa_nil)))))
      (Evl.pss_cut (ps_if (pt_cmpR op_eq (pe_ix ix_list (pv 5) pe_int (fun _ _ => rfl)) pe_int (nomark _))
      (pss_one (ps_set (i := 16) scTree.nd rfl (.inl rfl) (pe_tup (pa_cons (pe_ix ix_tup (pv 16) pe_int (fun _ _ => rfl)) (pa_cons (pe_ix ix_tup (pv 16) pe_int (fun _ _ => rfl)) (pa_cons (pe_op op_catA (pe_callTy call_tuple_of (by rfl) B.tuple (by decide +kernel) (pa_cons (pe_op op_rep (pe_lst (pa_cons (pv 17) pa_nil)) (pe_ix ix_list (pv 5) pe_int (fun _ _ => rfl))) pa_nil)) (pe_ix ix_tup (pv 16) pe_int (fun _ _ => rfl))) pa_nil))))))
      pss_nil)
      (pss_cons (ps_for (PassesOwn.never) rfl (pi_range1 (by rfl) B.range (pa_cons (pe_ix ix_list (pv 5) pe_int (fun _ _ => rfl)) pa_nil)) (pg_name (i := 4) scTree.nd rfl (.inl rfl))
      (pss_one (ps_set (i := 16) scTree.nd rfl (.inl rfl) (pe_tup (pa_cons (pe_ix ix_list (pv 1) pe_int (fun _ _ => rfl)) (pa_cons (pe_ix ix_list (pv 2) pe_int (fun _ _ => rfl)) (pa_cons (pe_tup (pa_cons (pv 16) pa_nil)) pa_nil)))))))
      (pss_one (ps_ret (pv 16))))))))))))))), ?_⟩
    have kget : ∀ (g : Int), 0 ≤ g → g < 3 → ∃ z, atI (ks.map V.str) g = some (.str z) ∧ Name z := fun g h0 h1 => by
      have hlt : g.toNat < ks.length := by omega
      refine ⟨ks[g.toNat]'hlt, at_of (j := g.toNat) (by omega) (sAt (List.getElem?_eq_getElem hlt)), hkn _ (List.getElem_mem hlt)⟩
    have mget : ∀ (g : Int), 0 ≤ g → g < 4 → ∃ z, atI (ms.map V.str) g = some (.str z) ∧ Mark z := fun g h0 h1 => by
      have hlt : g.toNat < ms.length := by omega
      refine ⟨ms[g.toNat]'hlt, at_of (j := g.toNat) (by omega) (sAt (List.getElem?_eq_getElem hlt)), hmn _ (List.getElem_mem hlt)⟩
    refine ⟨by show 4 ≤ sizeLine; decide, fun l0 n0 => ?_⟩
    have s0 : Same H (upd H l0 (.lst [.int 9, .int 4, .int 20, .int 3])) := same_new n0
    have e0 : (upd H l0 (.lst [.int 9, .int 4, .int 20, .int 3])) l0 = some (.lst ((lim5 0).map V.int)) := upd_same
    generalize upd H l0 (.lst [.int 9, .int 4, .int 20, .int 3]) = H0 at s0 e0 ⊢
    refine ⟨9, rfl, by decide, by decide, ?_⟩
    refine for_range (lo := 0) (n := 9) (fun i σ H' => ∃ (p : Addr) (y4 : Option V), σ = [some (.int c), some (.ref ka), some (.ref ma), some (.ref p), y4, none, none, none, none, none, none, none, none, none, none, none, none, none] ∧ Same H H' ∧ H' p = some (.lst ((lim5 i).map V.int)))
      ⟨l0, none, rfl, s0, e0⟩ ?_ ?_
    · rintro i σ H' hi ⟨p, y4, rfl, sm, hp⟩
      refine ⟨.ref p, rfl, by show 5 ≤ sizeLine; decide, fun l1 n1 => ⟨p, l1, _, _, rfl, rfl, by rw [upd_ne (ne_of_none hp n1)]; exact hp, upd_same, ?_, fun l2 n2 => ?_⟩⟩
      · rw [List.length_map, lim5_len]; show _ + 5 ≤ _; rw [sizeLine_eq]; omega
      · refine ⟨l2, _, rfl, (same_new2 (same_new2 sm n1) n2), ?_⟩
        rw [upd_same, ← lim5_succ, List.map_append]; rfl
    rintro σ H' ⟨p, y4, rfl, sm, hp⟩
    refine ⟨.int c, rfl, .ref p, rfl, c, p, _, rfl, SqL.of hp, by rw [lim5_len]; decide, fun l hl => ?_, fun H1 R rs s1 nR hR hrow => ?_⟩
    · have := lim5_mem hl; omega
    have sA := sm.trans s1
    obtain ⟨g0, a0, b0, d0⟩ := row_at hrow (i := 0) (l := 9) rfl
    obtain ⟨g1, a1, b1, d1⟩ := row_at hrow (i := 1) (l := 4) rfl
    obtain ⟨g2, a2, b2, d2⟩ := row_at hrow (i := 2) (l := 20) rfl
    obtain ⟨g3, a3, b3, d3⟩ := row_at hrow (i := 3) (l := 3) rfl
    obtain ⟨m0, rfl⟩ : ∃ k : Nat, g0 = (k : Int) := ⟨g0.toNat, by omega⟩
    have hrl : rs.length = 49 := by rw [hrow.1, lim5_len]
    refine ⟨Nat.zero_le _, fun U nU => ?_⟩
    have sU := same_new nU (o := .lst [])
    have eU : (upd H1 U (.lst [])) U = some (.lst []) := upd_same
    have nRU : R ≠ U := ne_of_none hR nU
    have nHU : H U = none := sA.free nU
    have hR1 := sU _ _ hR
    generalize upd H1 U (.lst []) = H2 at sU eU hR1 ⊢
    have sB := sA.trans sU
    refine ⟨.ref R, rfl, R, _, 0, .int (m0 : Int), rfl, rfl, SqL.of hR1, atI_nat (j := 0) (i_at a0), (m0 : Int), 1, rfl, rfl, (m0 : Int) + 1, rfl, by omega, by omega, ?_⟩
    rw [show ((m0 : Int) + 1).toNat = m0 + 1 by omega]
    refine for_range (lo := 0) (n := m0 + 1) (fun i σ H' => ∃ (y4 y8 : Option V) (d : Nat) (us : List V), σ = [some (.int c), some (.ref ka), some (.ref ma), some (.ref p), y4, some (.ref R), some (.ref U), some (.int (d : Int)), y8, none, none, none, none, none, none, none, none, none] ∧ Same H H' ∧ H' R = some (.lst (rs.map V.int)) ∧ H' U = some (.lst us) ∧ Items H' us ∧ us.length = i ∧ (i = 0 → d = 0) ∧ d ≤ i - 1)
      ⟨y4, none, 0, [], rfl, sB, hR1, eU, fun i v h => by simp at h, rfl, fun _ => rfl, Nat.zero_le _⟩ ?_ ?_
    · rintro i σ H' hi ⟨y4, y8, d, us, rfl, sm, hRi, hUi, hit, hul, hd0, hd1⟩
      have e0 : (0 : Int) + (i : Int) = (i : Int) := by omega
      rw [e0]
      have part : ∀ j l, j < 5 → ([4, 3, 4, 3, 3] : List Int)[j]? = some l → ∃ r, rs[5 * i + 4 + j]? = some r ∧ 0 ≤ r ∧ r < l := fun j l hj hl => row_at hrow (by rw [lim5_at (by omega) hj]; exact hl)
      obtain ⟨r0, p0, pb0, pd0⟩ := part 0 4 (by decide) rfl
      obtain ⟨r1, p1, pb1, pd1⟩ := part 1 3 (by decide) rfl
      obtain ⟨r2, p2, pb2, pd2⟩ := part 2 4 (by decide) rfl
      obtain ⟨r3, p3, pb3, pd3⟩ := part 3 3 (by decide) rfl
      obtain ⟨r4, p4, pb4, pd4⟩ := part 4 3 (by decide) rfl
      refine ⟨.ref R, rfl, .int (i : Int), rfl, 5, (i : Int), rfl, rfl, .inl ⟨by decide, by decide⟩, _, 4, rfl, rfl, _, rfl, .int (i : Int), rfl, 5, (i : Int), rfl, rfl, .inl ⟨by decide, by decide⟩, _, 9, rfl, rfl, _, rfl, R, _, rfl, SqL.of hRi, fun P nP => ?_⟩
      have ecut : cutV (rs.map V.int) (some (5 * (i : Int) + 4)) (some (5 * (i : Int) + 9)) = ((rs.map V.int).drop (5 * i + 4)).take 5 := by
        rw [show 5 * (i : Int) + 4 = ((5 * i + 4 : Nat) : Int) by omega, show 5 * (i : Int) + 9 = ((5 * i + 9 : Nat) : Int) by omega, cutV_nat _ (by omega) (by rw [List.length_map]; omega)]
        congr 1; omega
      dsimp only
      rw [ecut]
      have pat : ∀ j r, j < 5 → rs[5 * i + 4 + j]? = some r → atI (((rs.map V.int).drop (5 * i + 4)).take 5) (j : Int) = some (.int r) := fun j r hj h => by
        refine atI_nat ?_
        rw [List.getElem?_take, if_pos hj, List.getElem?_drop, List.getElem?_map, h]; rfl
      generalize ((rs.map V.int).drop (5 * i + 4)).take 5 = pt at pat ⊢
      have sP := same_new nP (o := .lst pt)
      have eP : (upd H' P (.lst pt)) P = some (.lst pt) := upd_same
      have hUP := sP _ _ hUi
      have hRP := sP _ _ hRi
      have hitP := hit.tups (Same.tups sP)
      have smP := sm.trans sP
      generalize upd H' P (.lst pt) = H3 at sP eP hUP hRP hitP smP ⊢
      refine ⟨fun σ' H'' => ∃ d' : Nat, σ' = [some (.int c), some (.ref ka), some (.ref ma), some (.ref p), some (.int (i : Int)), some (.ref R), some (.ref U), some (.int (d' : Int)), some (.ref P), none, none, none, none, none, none, none, none, none] ∧ Same H3 H'' ∧ (i = 0 → d' = 0) ∧ (0 < i → 1 ≤ d' ∧ d' ≤ i), ?_, ?_⟩
      · refine ⟨.int (i : Int), rfl, (i : Int), 0, rfl, rfl, _, rfl, ite2 (fun h => ?_) (fun h => ?_)⟩
        · have hi0 : 0 < i := by have := of_decide_eq_true h; omega
          obtain ⟨n0, rfl⟩ : ∃ k : Nat, r0 = (k : Int) := ⟨r0.toNat, by omega⟩
          obtain ⟨d', e1, e2, e3⟩ := dstep d i hd1 hi0 n0 (by omega)
          refine ⟨.int (d : Int), rfl, (d : Int), 1, rfl, rfl, .int (d : Int), rfl, (d : Int), 1, rfl, .int (d : Int), rfl, (d : Int), 1, rfl, rfl, _, 1, rfl, by show 4 ≤ sizeLine; decide, fun l nl => ⟨.ref P, rfl, P, pt, 0, .int (n0 : Int), rfl, rfl, SqL.of (same_new nl _ _ eP), pat 0 _ (by decide) p0, l, _, (n0 : Int), .int (d' : Int), rfl, rfl, SqL.of upd_same, atI_nat e1, d', rfl, same_new nl, fun h => by omega, fun _ => ⟨e2, e3⟩⟩⟩
        · have hi0 : i = 0 := by
            have : ¬ ((0 : Int) < (i : Int)) := fun z => h (decide_eq_true z)
            omega
          exact ⟨d, rfl, Same.refl _, hd0, fun h => by omega⟩
      · rintro σ' H4 ⟨d', rfl, s4, hz0, hz1⟩
        obtain ⟨zk, ek, nk⟩ := kget r1 pb1 pd1
        obtain ⟨zm, em, nm⟩ := mget r2 pb2 pd2
        have s04 := smP.trans s4
        have hU4 := s4 _ _ hUP
        refine ⟨.ref U, rfl, .inl ⟨rfl, _, SqL.of hU4⟩, .int (d' : Int), rfl, .ref ka, rfl, .ref P, rfl, P, pt, 1, .int r1, rfl, rfl, SqL.of (s4 _ _ eP), pat 1 _ (by decide) p1, ka, _, r1, .str zk, rfl, rfl, s04.seq (SqL.of hka), ek, .ref ma, rfl, .ref P, rfl, P, pt, 2, .int r2, rfl, rfl, SqL.of (s4 _ _ eP), pat 2 _ (by decide) p2, ma, _, r2, .str zm, rfl, rfl, s04.seq (SqL.of hma), em, .ref P, rfl, P, pt, 3, .int r3, rfl, rfl, SqL.of (s4 _ _ eP), pat 3 _ (by decide) p3, .ref P, rfl, P, pt, 4, .int r4, rfl, rfl, SqL.of (s4 _ _ eP), pat 4 _ (by decide) p4, by show 5 ≤ sizeLine; decide, fun t nt => ⟨U, us, .ref t, rfl, rfl, by rw [upd_ne (ne_of_none hU4 nt)]; exact hU4, small1000 (by omega), ?_⟩⟩
        have st := same_new nt (o := .tup [.int (d' : Int), .str zk, .str zm, .int r3, .int r4])
        have hUt := st _ _ hU4
        have tt : SameT (upd H4 t (.tup [.int (d' : Int), .str zk, .str zm, .int r3, .int r4])) (upd (upd H4 t (.tup [.int (d' : Int), .str zk, .str zm, .int r3, .int r4])) U (.lst (us ++ [.ref t]))) := fun b ys h => by
          rw [upd_ne (ne_of h hUt (by intro z; cases z))]; exact h
        refine ⟨_, _, d', us ++ [.ref t], rfl, same_at (s04.trans st) nHU, by rw [upd_ne nRU]; exact st _ _ (s4 _ _ hRP), upd_same, ?_, by rw [List.length_append, hul]; rfl, fun h => by omega, ?_⟩
        · refine Items.snoc ((hitP.tups (Same.tups (s4.trans st))).tups tt) ⟨d', zk, zm, ⟨t, r3, r4, rfl, tt _ _ upd_same⟩, nk, nm, fun h => hz0 (by omega), fun h => by rw [hul]; exact hz1 (by omega)⟩
        · by_cases h0 : i = 0
          · have := hz0 h0; omega
          · have := hz1 (by omega); omega
    rintro σ H3 ⟨y4, y8, d, us, rfl, sm3, hR3, hU3, hit3, hul, _, _⟩
    -- below
    refine ⟨Nat.zero_le _, fun Em nE => ⟨by show 1 ≤ sizeLine; decide, fun l1 n1 => ?_⟩⟩
    have sE1 := same_new nE (o := .tup [])
    have eE1 : (upd H3 Em (.tup [])) Em = some (.tup []) := upd_same
    have hU3a := sE1 _ _ hU3
    have hR3a := sE1 _ _ hR3
    generalize upd H3 Em (.tup []) = H4 at sE1 eE1 hU3a hR3a n1 ⊢
    have sE2 := same_new n1 (o := .lst [.ref Em])
    have eE2 : (upd H4 l1 (.lst [.ref Em])) l1 = some (.lst [.ref Em]) := upd_same
    have hU4 := sE2 _ _ hU3a
    have hR4 := sE2 _ _ hR3a
    have hE4 := sE2 _ _ eE1
    have s4 := sm3.trans (sE1.trans sE2)
    have hit4 := hit3.tups (Same.tups (sE1.trans sE2))
    generalize upd H4 l1 (.lst [.ref Em]) = H5 at sE2 eE2 hU4 hR4 hE4 s4 hit4 ⊢
    refine ⟨.ref U, rfl, .ref U, us.length, rfl, .inl ⟨_, SqL.of hU4, rfl⟩, _, 2, rfl, rfl, l1, _, [.ref Em], rfl, rfl, eE2, by omega, by omega, ?_, fun Bl nBl => ?_⟩
    · rw [sizeLine_eq]; show 1 * ((us.length : Int) + 2).toNat ≤ _; omega
    rw [show ((us.length : Int) + 2).toNat = us.length + 2 by omega, rep1]
    have nHB : H Bl = none := s4.free nBl
    have nUB : U ≠ Bl := ne_of_none hU4 nBl
    have nRB : R ≠ Bl := ne_of_none hR4 nBl
    have sB2 := same_new nBl (o := .lst (List.replicate (us.length + 2) (.ref Em)))
    have eB : (upd H5 Bl (.lst (List.replicate (us.length + 2) (.ref Em)))) Bl = some (.lst (List.replicate (us.length + 2) (.ref Em))) := upd_same
    have hU5 := sB2 _ _ hU4
    have hR5 := sB2 _ _ hR4
    have hE5 := sB2 _ _ hE4
    have s5 := s4.trans sB2
    have hit5 := hit4.tups (Same.tups sB2)
    generalize upd H5 Bl (.lst (List.replicate (us.length + 2) (.ref Em))) = H6 at sB2 eB hU5 hR5 hE5 s5 hit5 ⊢
    have frs0 : Frs H6 (List.replicate (us.length + 2) (.ref Em)) (List.replicate (us.length + 2) []) := by
      refine ⟨by rw [List.length_replicate, List.length_replicate], fun i v f a b => ?_⟩
      have ha := List.mem_of_getElem? a
      have hb := List.mem_of_getElem? b
      rw [(List.mem_replicate.mp ha).2, (List.mem_replicate.mp hb).2]
      exact ⟨Em, [], rfl, hE5, AllT.nil⟩
    refine ⟨.ref U, rfl, .ref U, us.length, rfl, .inl ⟨_, SqL.of hU5, rfl⟩, _, 1, rfl, rfl, 1, rfl, 1, rfl, (us.length : Int) - 1, -1, -1, _, rfl, RgC.neg (by omega) (by omega) (by decide) (by decide), ?_⟩
    rw [show ((us.length : Int) - 1 - -1).toNat = us.length by omega]
    refine for_rangeC (lo := (us.length : Int) - 1) (c := -1) (n := us.length) (fun i σ H' => ∃ (y4 y7 y10 y11 y12 y13 y14 y15 : Option V) (bs : List V) (fs : List (List T)), σ = [some (.int c), some (.ref ka), some (.ref ma), some (.ref p), y4, some (.ref R), some (.ref U), y7, y8, some (.ref Bl), y10, y11, y12, y13, y14, y15, none, none] ∧ Same H H' ∧ H' R = some (.lst (rs.map V.int)) ∧ H' U = some (.lst us) ∧ Items H' us ∧ H' Bl = some (.lst bs) ∧ Frs H' bs fs ∧ fs.length = us.length + 2 ∧ tot fs ≤ 3 * i ∧ (∀ f ∈ fs, goods f) ∧
        (i < us.length → fs[0]? = some []) ∧ (i = us.length → ∃ pre k m cs, fs[0]? = some (pre ++ [.el k m cs])))
      ⟨y4, some (.int (d : Int)), none, none, none, none, none, none, _, _, rfl, s5, hR5, hU5, hit5, eB, frs0, List.length_replicate, by rw [tot_rep]; exact Nat.zero_le _, fun f hf => by rw [(List.mem_replicate.mp hf).2]; trivial, fun _ => rfl, fun h => by omega⟩ ?_ ?_
    · rintro i σ H' hi ⟨y4, y7, y10, y11, y12, y13, y14, y15, bs, fs, rfl, sm, hRi, hUi, hit, hBi, hfr, hfl, htot, hgood, hz0, _⟩
      have ei : (us.length : Int) - 1 + (i : Nat) * (-1) = ((us.length - 1 - i : Nat) : Int) := by omega
      rw [ei]
      have hkk : us.length - 1 - i < us.length := by omega
      have hv : us[us.length - 1 - i]? = some (us[us.length - 1 - i]'hkk) := List.getElem?_eq_getElem hkk
      obtain ⟨dd, k, m, ⟨t, a, b, ev, ht⟩, nk, nm, hd0, hd1⟩ := hit _ _ hv
      rw [ev] at hv
      have hbl := hfr.1
      have hdle : dd ≤ us.length - 1 - i := by
        by_cases h0 : us.length - 1 - i = 0
        · have := hd0 h0; omega
        · have := hd1 (by omega); omega
      have b1 : bs[dd + 1]? = some (bs[dd + 1]'(by omega)) := List.getElem?_eq_getElem _
      have f1 : fs[dd + 1]? = some (fs[dd + 1]'(by omega)) := List.getElem?_eq_getElem _
      have tp := hfr.2 _ _ _ b1 f1
      have gd1 := hgood _ (List.getElem_mem (show dd + 1 < fs.length by omega))
      have hs1 : szs (fs[dd + 1]'(by omega)) ≤ tot fs := by
        have := tot_set fs (dd + 1) [] _ f1
        simp only [szs] at this; omega
      generalize bs[dd + 1]'(by omega) = v1 at b1 tp
      generalize fs[dd + 1]'(by omega) = f1v at f1 tp gd1 hs1
      obtain ⟨x1, vs1, rfl, hx1, hall1⟩ := tp
      refine ⟨.ref U, rfl, .int ((us.length - 1 - i : Nat) : Int), rfl, U, us, _, .ref t, rfl, rfl, SqL.of hUi, atI_nat hv, t, _, rfl, SqT.of ht, rfl, .int (dd : Int), _, rfl, .str k, _, rfl, .str m, _, rfl, .int a, _, rfl, .int b, _, rfl, rfl, ?_⟩
      refine ⟨.ref Bl, rfl, .int (dd : Int), rfl, (dd : Int), 1, rfl, rfl, Bl, bs, _, .ref x1, rfl, rfl, SqL.of hBi, at_of (j := dd + 1) (by omega) b1, ?_⟩
      refine ⟨fun σ' H'' => ∃ (x2 : Addr) (f2 : List T), σ' = [some (.int c), some (.ref ka), some (.ref ma), some (.ref p), some (.int ((us.length - 1 - i : Nat) : Int)), some (.ref R), some (.ref U), some (.int (dd : Int)), y8, some (.ref Bl), some (.str k), some (.str m), some (.int a), some (.int b), some (.ref x2), y15, none, none] ∧ Same H' H'' ∧ TupT H'' (.ref x2) f2 ∧ goods f2 ∧ szs f2 ≤ szs f1v + 1, ?_, ?_⟩
      · refine ⟨.int b, rfl, rfl, _, rfl, ite2 (fun _ => ?_) (fun _ => ?_)⟩
        · refine ⟨.ref x1, rfl, by show 1 ≤ sizeLine; decide, fun t2 n2 => ?_⟩
          have st := same_new n2 (o := .tup [.str (Str.ofString "z y")])
          have hvl : vs1.length ≤ 900 := by have h1 := hall1.1; have h2 := szs_len f1v; omega
          refine catA (st _ _ hx1) upd_same (by show vs1.length + 1 ≤ 1000; omega) fun Hc pc sc hpc => ?_
          refine ⟨pc, f1v ++ [.txt (Str.ofString "z y")], rfl, st.trans sc, ⟨pc, _, rfl, hpc, (hall1.mono (Same.tups (st.trans sc))).app (AllT.one (.txt _))⟩, goods_append.mpr ⟨gd1, by simp [goods, good]⟩, ?_⟩
          rw [szs_append]; simp only [szs, sz]; omega
        · exact ⟨x1, f1v, rfl, Same.refl _, ⟨x1, vs1, rfl, hx1, hall1⟩, gd1, by omega⟩
      rintro σ' H7 ⟨x2, f2, rfl, s7, tp2, gd2, hs2⟩
      have hB7 := s7 _ _ hBi
      -- below[depth + 1] = ()
      refine ⟨Nat.zero_le _, fun e2 ne2 => ?_⟩
      have se := same_new ne2 (o := .tup [])
      have hBe := se _ _ hB7
      refine ⟨.ref Bl, rfl, .int (dd : Int), rfl, (dd : Int), 1, rfl, rfl, Bl, bs, _, dd + 1, rfl, rfl, hBe, by rw [show (dd : Int) + 1 = ((dd + 1 : Nat) : Int) by omega]; exact ix_nat (by omega), ?_⟩
      have st8 : SameT (upd H7 e2 (.tup [])) (upd (upd H7 e2 (.tup [])) Bl (.lst (bs.set (dd + 1) (.ref e2)))) := SameT.lst hBe
      have s8 : Same H (upd (upd H7 e2 (.tup [])) Bl (.lst (bs.set (dd + 1) (.ref e2)))) := same_at ((sm.trans s7).trans se) nHB
      have hR8 : (upd (upd H7 e2 (.tup [])) Bl (.lst (bs.set (dd + 1) (.ref e2)))) R = some (.lst (rs.map V.int)) := by rw [upd_ne nRB]; exact se _ _ (s7 _ _ hRi)
      have hU8 : (upd (upd H7 e2 (.tup [])) Bl (.lst (bs.set (dd + 1) (.ref e2)))) U = some (.lst us) := by rw [upd_ne nUB]; exact se _ _ (s7 _ _ hUi)
      have hB8 : (upd (upd H7 e2 (.tup [])) Bl (.lst (bs.set (dd + 1) (.ref e2)))) Bl = some (.lst (bs.set (dd + 1) (.ref e2))) := upd_same
      have stA : SameT H' (upd (upd H7 e2 (.tup [])) Bl (.lst (bs.set (dd + 1) (.ref e2)))) := (Same.tups (s7.trans se)).trans st8
      have hfr8 : Frs (upd (upd H7 e2 (.tup [])) Bl (.lst (bs.set (dd + 1) (.ref e2)))) (bs.set (dd + 1) (.ref e2)) (fs.set (dd + 1) []) := (hfr.mono stA).set ⟨e2, [], rfl, st8 _ _ upd_same, AllT.nil⟩
      have hit8 := hit.tups stA
      have tp8 : TupT (upd (upd H7 e2 (.tup [])) Bl (.lst (bs.set (dd + 1) (.ref e2)))) (.ref x2) f2 := tp2.mono ((Same.tups se).trans st8)
      generalize upd (upd H7 e2 (.tup [])) Bl (.lst (bs.set (dd + 1) (.ref e2))) = H8 at s8 hR8 hU8 hB8 hfr8 hit8 tp8 ⊢
      have tot8 : tot (fs.set (dd + 1) []) + szs f1v = tot fs := by have := tot_set fs (dd + 1) [] _ f1; simp only [szs] at this; omega
      have gd8 : ∀ f ∈ fs.set (dd + 1) [], goods f := fun f hf => by
        rcases List.mem_or_eq_of_mem_set hf with h1 | h1
        · exact hgood f h1
        · rw [h1]; trivial
      have z8 : (fs.set (dd + 1) [])[0]? = fs[0]? := at0_set (by omega)
      have l8 : (fs.set (dd + 1) []).length = us.length + 2 := by rw [List.length_set]; exact hfl
      generalize hbs8 : bs.set (dd + 1) (.ref e2) = bs8 at hB8 hfr8
      generalize fs.set (dd + 1) [] = fs8 at hfr8 tot8 gd8 z8 l8
      -- front
      refine ⟨.str k, rfl, .str m, rfl, .ref x2, rfl, by show 3 ≤ sizeLine; decide, fun t3 n3 => ⟨by show 1 ≤ sizeLine; decide, fun t4 n4 => ?_⟩⟩
      have s34 : Same H8 (upd (upd H8 t3 (.tup [.str k, .str m, .ref x2])) t4 (.tup [.ref t3])) := same_new2 (same_new n3) n4
      have e3 : (upd (upd H8 t3 (.tup [.str k, .str m, .ref x2])) t4 (.tup [.ref t3])) t3 = some (.tup [.str k, .str m, .ref x2]) := same_new n4 _ _ upd_same
      have e4 : (upd (upd H8 t3 (.tup [.str k, .str m, .ref x2])) t4 (.tup [.ref t3])) t4 = some (.tup [.ref t3]) := upd_same
      generalize upd (upd H8 t3 (.tup [.str k, .str m, .ref x2])) t4 (.tup [.ref t3]) = H9 at s34 e3 e4 ⊢
      have isE : IsT H9 (.ref t3) (.el k m f2) := by
        obtain ⟨x2', vs2, ex, hx2, hall2⟩ := tp8.mono (Same.tups s34)
        cases ex
        exact .el e3 hx2 hall2.1 hall2.2
      refine ⟨fun σ' H'' => ∃ (x5 : Addr) (pre : List T), σ' = [some (.int c), some (.ref ka), some (.ref ma), some (.ref p), some (.int ((us.length - 1 - i : Nat) : Int)), some (.ref R), some (.ref U), some (.int (dd : Int)), y8, some (.ref Bl), some (.str k), some (.str m), some (.int a), some (.int b), some (.ref x2), some (.ref x5), none, none] ∧ Same H9 H'' ∧ TupT H'' (.ref x5) (pre ++ [.el k m f2]) ∧ goods pre ∧ szs pre ≤ 1, ?_, ?_⟩
      · refine ⟨.int a, rfl, rfl, _, rfl, ite2 (fun _ => ?_) (fun _ => ?_)⟩
        · refine ⟨by show 1 ≤ sizeLine; decide, fun t5 n5 => ⟨.ref t4, rfl, ?_⟩⟩
          have st := same_new n5 (o := .tup [.str (Str.ofString "x ")])
          refine catA upd_same (st _ _ e4) (by show 2 ≤ 1000; decide) fun Hc pc sc hpc => ?_
          refine ⟨pc, [.txt (Str.ofString "x ")], rfl, st.trans sc, ⟨pc, _, rfl, hpc, (AllT.one (.txt _)).app (AllT.one (isE.mono (Same.tups (st.trans sc))))⟩, ⟨trivial, trivial⟩, by simp only [szs, sz]; omega⟩
        · exact ⟨t4, [], rfl, Same.refl _, ⟨t4, _, rfl, e4, AllT.one isE⟩, trivial, Nat.zero_le _⟩
      rintro σ' H10 ⟨x5, pre, rfl, s10, tp5, gdp, hsp⟩
      have s810 := s34.trans s10
      have hB10 := s810 _ _ hB8
      have hfr10 := hfr8.mono (Same.tups s810)
      have hbl8 := hfr8.1
      have b0 : bs8[dd]? = some (bs8[dd]'(by omega)) := List.getElem?_eq_getElem _
      have f0 : fs8[dd]? = some (fs8[dd]'(by omega)) := List.getElem?_eq_getElem _
      have tp0 := hfr10.2 _ _ _ b0 f0
      have gd0 := gd8 _ (List.getElem_mem (show dd < fs8.length by omega))
      have hs0 : szs (fs8[dd]'(by omega)) ≤ tot fs8 := by
        have := tot_set fs8 dd [] _ f0
        simp only [szs] at this; omega
      generalize bs8[dd]'(by omega) = v0 at b0 tp0
      generalize fs8[dd]'(by omega) = f0v at f0 tp0 gd0 hs0
      obtain ⟨x0, vs0, rfl, hx0, hall0⟩ := tp0
      obtain ⟨x5', vs5, ex5, hx5, hall5⟩ := tp5
      cases ex5
      have sz5 : szs (pre ++ [.el k m f2]) ≤ szs f1v + 3 := by rw [szs_append]; simp only [szs, sz]; omega
      have hl5 : vs5.length + vs0.length ≤ 1000 := by
        have h1 := hall5.1; have h2 := szs_len (pre ++ [.el k m f2]); have h3 := hall0.1; have h4 := szs_len f0v; omega
      refine ⟨.ref x5, rfl, .ref Bl, rfl, .int (dd : Int), rfl, Bl, bs8, _, .ref x0, rfl, rfl, SqL.of hB10, atI_nat b0, catA hx5 hx0 hl5 fun Hc pc sc hpc => ?_⟩
      have hBc := sc _ _ hB10
      refine ⟨.ref Bl, rfl, .int (dd : Int), rfl, Bl, bs8, _, dd, rfl, rfl, hBc, ix_nat (by omega), ?_⟩
      have stc : SameT Hc (upd Hc Bl (.lst (bs8.set dd (.ref pc)))) := SameT.lst hBc
      have st8c := (Same.tups (s810.trans sc)).trans stc
      refine ⟨_, _, _, _, _, _, _, _, bs8.set dd (.ref pc), fs8.set dd (pre ++ [.el k m f2] ++ f0v), rfl, same_at (s8.trans (s810.trans sc)) nHB, by rw [upd_ne nRB]; exact sc _ _ (s810 _ _ hR8), by rw [upd_ne nUB]; exact sc _ _ (s810 _ _ hU8), hit8.tups st8c, upd_same, (hfr8.mono st8c).set ⟨pc, _, rfl, stc _ _ hpc, (hall5.app hall0).mono ((Same.tups sc).trans stc)⟩, by rw [List.length_set]; exact l8, ?_, ?_, ?_, ?_⟩
      · have h1 := tot_set fs8 dd (pre ++ [.el k m f2] ++ f0v) _ f0
        rw [szs_append] at h1; omega
      · intro f hf
        rcases List.mem_or_eq_of_mem_set hf with h1 | h1
        · exact gd8 f h1
        · rw [h1]; exact goods_append.mpr ⟨goods_append.mpr ⟨gdp, ⟨nk, nm, gd2⟩, trivial⟩, gd0⟩
      · intro hlt
        have := hd1 (by omega)
        rw [at0_set (by omega), z8]; exact hz0 (by omega)
      · intro heq
        have hdz : dd = 0 := hd0 (by omega)
        subst hdz
        have h00 : fs8[0]? = some [] := by rw [z8]; exact hz0 hi
        rw [h00] at f0
        cases f0
        refine ⟨pre, k, m, f2, ?_⟩
        rw [List.getElem?_set_self (by omega), List.append_nil]
    rintro σ H7 ⟨y4, y7, y10, y11, y12, y13, y14, y15, bs, fs, rfl, sm7, hR7, hU7, _, hB7, hfr7, hfl7, htot7, hgood7, _, hend⟩
    obtain ⟨pre, k, m, cs, hf0⟩ := hend rfl
    have hus9 : us.length ≤ 9 := by omega
    have hbl := hfr7.1
    have b0 : bs[0]? = some (bs[0]'(by omega)) := List.getElem?_eq_getElem _
    obtain ⟨x0, vs0, ex0, hx0, hall0⟩ := hfr7.2 _ _ _ b0 hf0
    rw [ex0] at b0
    obtain ⟨xl, hxl, isl⟩ := last_of hall0
    have gdl : good (.el k m cs) := by
      have := hgood7 _ (List.mem_of_getElem? hf0)
      exact (goods_append.mp this).2.1
    have szl : sz (.el k m cs) ≤ 30 := by
      have h1 := tot_set fs 0 [] _ hf0
      rw [szs_append] at h1
      simp only [szs] at h1; omega
    refine ⟨.ref Bl, rfl, Bl, bs, 0, .ref x0, rfl, rfl, SqL.of hB7, atI_nat (j := 0) b0, 1, rfl, x0, vs0, -1, xl, rfl, rfl, SqT.of hx0, hxl, ?_⟩
    obtain ⟨z0, ez0, nz0⟩ := kget 0 (by decide) (by decide)
    refine ⟨.ref ka, rfl, ka, _, 0, .str z0, rfl, rfl, sm7.seq (SqL.of hka), ez0, Nat.zero_le _, fun te ne => ⟨by show 3 ≤ sizeLine; decide, fun tf nf => ?_⟩⟩
    have sF : Same H7 (upd (upd H7 te (.tup [])) tf (.tup [.str z0, .str (Str.ofString ""), .ref te])) := same_new2 (same_new ne) nf
    have eF : (upd (upd H7 te (.tup [])) tf (.tup [.str z0, .str (Str.ofString ""), .ref te])) tf = some (.tup [.str z0, .str (Str.ofString ""), .ref te]) := upd_same
    have eTe : (upd (upd H7 te (.tup [])) tf (.tup [.str z0, .str (Str.ofString ""), .ref te])) te = some (.tup []) := same_new nf _ _ upd_same
    generalize upd (upd H7 te (.tup [])) tf (.tup [.str z0, .str (Str.ofString ""), .ref te]) = H8 at sF eF eTe ⊢
    have isLeaf : IsT H8 (.ref tf) (.el z0 (Str.ofString "") []) := .el eF eTe rfl fun i v c a => by simp at a
    have gLeaf : good (.el z0 (Str.ofString "") []) := ⟨nz0, .inl (by decide +kernel), trivial⟩
    have s8 := sm7.trans sF
    have hR8 := sF _ _ hR7
    have isl8 := isl.mono (Same.tups sF)
    refine ⟨fun σ' H'' => ∃ (v : V) (k m : Str) (cs : List T), σ' = [some (.int c), some (.ref ka), some (.ref ma), some (.ref p), y4, some (.ref R), some (.ref U), y7, y8, some (.ref Bl), y10, y11, y12, y13, y14, y15, some v, some (.ref tf)] ∧ Same H8 H'' ∧ IsT H'' v (.el k m cs) ∧ good (.el k m cs) ∧ sz (.el k m cs) ≤ 60, ?_, ?_⟩
    · refine ⟨.ref R, rfl, R, _, 1, .int g1, rfl, rfl, SqL.of hR8, atI_nat (j := 1) (i_at a1), rfl, _, rfl, ite2 (fun _ => ?_) (fun _ => ?_)⟩
      · obtain ⟨xa, xb, ws, rfl, h1, h2, hall⟩ := isl8.el_inv
        obtain ⟨n2, rfl⟩ : ∃ n : Nat, g2 = (n : Int) := ⟨g2.toNat, by omega⟩
        refine ⟨.ref xa, rfl, xa, _, 0, .str k, rfl, rfl, SqT.of h1, atI_nat (j := 0) rfl, .ref xa, rfl, xa, _, 1, .str m, rfl, rfl, SqT.of h1, atI_nat (j := 1) rfl, .ref tf, rfl, by show 1 ≤ sizeLine; decide, fun l2 nl2 => ?_⟩
        have sL2 := same_new nl2 (o := .lst [.ref tf])
        refine ⟨.ref R, rfl, R, _, 2, .int (n2 : Int), rfl, rfl, SqL.of (sL2 _ _ hR8), atI_nat (j := 2) (i_at a2), l2, _, [.ref tf], rfl, rfl, upd_same, by omega, by omega, ?_, fun l3 nl3 => ?_⟩
        · rw [sizeLine_eq]; show 1 * ((n2 : Int)).toNat ≤ _; omega
        rw [Int.toNat_natCast, rep1]
        have sL3 := same_new nl3 (o := .lst (List.replicate n2 (.ref tf)))
        refine ⟨l3, _, rfl, .inl ⟨SqL.of upd_same, fun t4 nt4 => ?_⟩⟩
        have sL4 := same_new nt4 (o := .tup (List.replicate n2 (.ref tf)))
        have sL := sL2.trans (sL3.trans sL4)
        have hallR : AllT (upd (upd (upd H8 l2 (.lst [.ref tf])) l3 (.lst (List.replicate n2 (.ref tf)))) t4 (.tup (List.replicate n2 (.ref tf)))) (List.replicate n2 (.ref tf)) (List.replicate n2 (.el z0 (Str.ofString "") [])) := by
          refine ⟨by rw [List.length_replicate, List.length_replicate], fun i v c a b => ?_⟩
          rw [(List.mem_replicate.mp (List.mem_of_getElem? a)).2, (List.mem_replicate.mp (List.mem_of_getElem? b)).2]
          exact isLeaf.mono (Same.tups sL)
        have hwl : ws.length ≤ 900 := by have h3 := hall.1; have h4 := szs_len cs; simp only [sz] at szl; omega
        refine ⟨.ref xa, rfl, xa, _, 2, .ref xb, rfl, rfl, SqT.of (sL _ _ h1), atI_nat (j := 2) rfl, catA upd_same (sL _ _ h2) (by rw [List.length_replicate]; omega) fun Hc pc sc hpc => ⟨by show 3 ≤ sizeLine; decide, fun t6 nt6 => ?_⟩⟩
        have s6 := same_new nt6 (o := .tup [.str k, .str m, .ref pc])
        have happ := ((hallR.app (hall.mono (Same.tups sL))).mono (Same.tups (sc.trans s6)))
        have hszr : szs (List.replicate n2 (.el z0 (Str.ofString "") [])) = n2 := by
          have : ∀ n : Nat, szs (List.replicate n (.el z0 (Str.ofString "") [])) = n := fun n => by
            induction n with
            | zero => rfl
            | succ n ih => simp only [List.replicate_succ, szs, sz, ih]; omega
          exact this n2
        refine ⟨.ref t6, k, m, _, rfl, sL.trans (sc.trans s6), .el upd_same (s6 _ _ hpc) happ.1 happ.2, ⟨gdl.1, gdl.2.1, goods_append.mpr ⟨?_, gdl.2.2⟩⟩, ?_⟩
        · have : ∀ n : Nat, goods (List.replicate n (.el z0 (Str.ofString "") [])) := fun n => by
            induction n with
            | zero => trivial
            | succ n ih => exact ⟨gLeaf, ih⟩
          exact this n2
        · simp only [sz] at szl ⊢
          rw [szs_append, hszr]; omega
      · exact ⟨xl, k, m, cs, rfl, Same.refl _, isl8, gdl, by omega⟩
    rintro σ' H9 ⟨v9, k9, m9, cs9, rfl, s9, is9, gd9, sz9⟩
    have hR9 := s9 _ _ hR8
    have sm9 := s8.trans s9
    obtain ⟨n3, rfl⟩ : ∃ n : Nat, g3 = (n : Int) := ⟨g3.toNat, by omega⟩
    obtain ⟨z2, ez2, nz2⟩ := kget 2 (by decide) (by decide)
    obtain ⟨w1, ew1, nw1⟩ := mget 1 (by decide) (by decide)
    refine ⟨.ref R, rfl, R, _, 3, .int (n3 : Int), rfl, rfl, SqL.of hR9, atI_nat (j := 3) (i_at a3), n3, rfl, by omega, by omega, ?_⟩
    rw [Int.toNat_natCast]
    refine for_range (lo := 0) (n := n3) (fun i σ H' => ∃ (y4 : Option V) (v : V) (k m : Str) (cs : List T), σ = [some (.int c), some (.ref ka), some (.ref ma), some (.ref p), y4, some (.ref R), some (.ref U), y7, y8, some (.ref Bl), y10, y11, y12, y13, y14, y15, some v, some (.ref tf)] ∧ Same H9 H' ∧ IsT H' v (.el k m cs) ∧ good (.el k m cs) ∧ sz (.el k m cs) ≤ 60 + i)
      ⟨y4, v9, k9, m9, cs9, rfl, Same.refl _, is9, gd9, by omega⟩ ?_ ?_
    · rintro i σ H' hi ⟨y4, v, k', m', cs', rfl, sm, isv, gdv, szv⟩
      have sa := sm9.trans sm
      refine ⟨.ref ka, rfl, ka, _, 2, .str z2, rfl, rfl, sa.seq (SqL.of hka), ez2, .ref ma, rfl, ma, _, 1, .str w1, rfl, rfl, sa.seq (SqL.of hma), ew1, v, rfl, by show 1 ≤ sizeLine; decide, fun t1 n1 => ⟨by show 3 ≤ sizeLine; decide, fun t2 n2 => ?_⟩⟩
      have st : Same H' (upd (upd H' t1 (.tup [v])) t2 (.tup [.str z2, .str w1, .ref t1])) := same_new2 (same_new n1) n2
      have ha1 := AllT.one (isv.mono (Same.tups st))
      refine ⟨_, .ref t2, z2, w1, [.el k' m' cs'], rfl, sm.trans st, .el upd_same (same_new n2 _ _ upd_same) ha1.1 ha1.2, ⟨nz2, nw1, gdv, trivial⟩, ?_⟩
      simp only [sz, szs] at szv ⊢; omega
    · rintro σ H' ⟨y4, v, k', m', cs', rfl, sm, isv, gdv, szv⟩
      exact ⟨v, rfl, q H' v k' m' cs' (sm9.trans sm) isv (by omega) gdv⟩
end
end K09

set_option maxRecDepth 100000
set_option maxHeartbeats 4000000
namespace K09
open PySem PySem.Spec PyProof.Rows L2
/-! ### a dict by places -/
abbrev kk (ns : List Int) : List Key := ns.map Sum.inl
theorem kk_kV (ns : List Int) : (kk ns).map kV = ns.map V.int := by rw [List.map_map]; rfl
theorem kk_inj {a b : List Int} (h : kk a = kk b) : a = b := List.map_inj_right (fun x y h => Sum.inl.inj h) |>.mp h
theorem putK_len {kvs : List (List Key × V)} {k : List Key} {v : V} : (putK kvs k v).length ≤ kvs.length + 1 := by
  unfold putK; split
  · rw [List.length_map]; exact Nat.le_succ _
  · rw [List.length_append]; exact Nat.le_refl _
def EvAt (H : Hp) (ev : V) (eo : Option (List Int)) : Prop := match eo with
  | none => ev = .non
  | some q => ∃ c, ev = .ref c ∧ H c = some (.tup (q.map V.int))
theorem EvAt.tups {H H' : Hp} {ev : V} {eo : Option (List Int)} (h : EvAt H ev eo) (s : SameT H H') : EvAt H' ev eo := by
  cases eo with
  | none => exact h
  | some q => obtain ⟨c, e, hc⟩ := h; exact ⟨c, e, s _ _ hc⟩
def InfoAt (H : Hp) (v : V) (k m : Str) (eo : Option (List Int)) (n : Nat) : Prop := ∃ b ev, v = .ref b ∧ H b = some (.tup [.str k, .str m, ev, .int (n : Int)]) ∧ EvAt H ev eo
theorem InfoAt.tups {H H' : Hp} {v : V} {k m : Str} {eo : Option (List Int)} {n : Nat} (h : InfoAt H v k m eo n) (s : SameT H H') : InfoAt H' v k m eo n := by
  obtain ⟨b, ev, e, hb, he⟩ := h
  exact ⟨b, ev, e, s _ _ hb, he.tups s⟩
def Sound (H : Hp) (t : T) (kvs : List (List Key × V)) : Prop := ∀ K' v, valV kvs K' = some v → ∃ ns k m cs, K' = kk ns ∧ atP t ns = some (.el k m cs) ∧ InfoAt H v k m (eldP t ns) cs.length
theorem Sound.tups {H H' : Hp} {t : T} {kvs : List (List Key × V)} (h : Sound H t kvs) (s : SameT H H') : Sound H' t kvs := fun K' v e => by
  obtain ⟨ns, k, m, cs, e1, e2, e3⟩ := h K' v e
  exact ⟨ns, k, m, cs, e1, e2, e3.tups s⟩
structure Nd where
  a : Addr
  q : Addr
  x : V
  ev : V
  ns : List Int
  u : T
structure NdOk (H : Hp) (t : T) (d : Nd) : Prop where
  ha : H d.a = some (.tup [d.x, .ref d.q, d.ev])
  hq : H d.q = some (.tup (d.ns.map V.int))
  hx : IsT H d.x d.u
  ht : atP t d.ns = some d.u
  he : EvAt H d.ev (eldP t d.ns)
theorem NdOk.tups {H H' : Hp} {t : T} {d : Nd} (h : NdOk H t d) (s : SameT H H') : NdOk H' t d := ⟨s _ _ h.ha, s _ _ h.hq, h.hx.mono s, h.ht, h.he.tups s⟩
def nrefs (ds : List Nd) : List V := ds.map fun d => .ref d.a
def ntot : List Nd → Nat
  | [] => 0
  | d :: ds => sz d.u + ntot ds
theorem ntot_append (as bs : List Nd) : ntot (as ++ bs) = ntot as + ntot bs := by
  induction as with
  | nil => simp [ntot]
  | cons a as ih => simp only [List.cons_append, ntot, ih]; omega
theorem ntot_len (ds : List Nd) : ds.length ≤ ntot ds := by
  induction ds with
  | nil => simp
  | cons d ds ih => have := sz_pos d.u; simp only [List.length_cons, ntot]; omega
/-- every element is noted or waits -/
def Cover (t : T) (kvs : List (List Key × V)) (nds : List Nd) : Prop := ∀ ns, (∃ k m cs, atP t ns = some (.el k m cs)) → (valV kvs (kk ns)).isSome = true ∨ ∃ d ∈ nds, ∃ r, ns = d.ns ++ r
theorem szs_take {cs : List T} {i : Nat} {c : T} (h : cs[i]? = some c) : szs (cs.take (i + 1)) = szs (cs.take i) + sz c := by
  rw [List.take_add_one, h, szs_append]; simp [szs]
theorem szs_take_le (cs : List T) (i : Nat) : szs (cs.take i) ≤ szs cs := by
  have h := szs_append (cs.take i) (cs.drop i)
  rw [List.take_append_drop] at h; omega
theorem dNewT_same {H : Hp} {p : Addr} (h : H p = none) : Same H (upd H p (.dT [])) := same_new h
section
variable {P : Program} {w : World} {K : PySem.W.Frag} {mg : Str → Option Value} {base : Heap} {t1 t2 t3 t4 t5 t6 : Tok}
/-! ### _law_nodes -/
def spNodes : Sp := fun vs H Q _ => ∃ (v : V) (t : T) (k m : Str) (cs : List T), vs = [v] ∧ t = .el k m cs ∧ IsT H v t ∧ sz t ≤ 200 ∧
  ∀ H' a D X kvs us ps, Same H H' → H' a = some (.lst [.ref D, .ref X]) → H' D = some (.dT kvs) → Sound H' t kvs → (∀ ns, (∃ k m cs, atP t ns = some (.el k m cs)) → (valV kvs (kk ns)).isSome = true) → kvs.length ≤ 200 →
    H' X = some (.lst us) → PlacesAt H' us ps → (∀ p ∈ ps, ∃ z, atP t p = some (.txt z)) → us.length ≤ 200 → H D = none → H X = none → Q (.ref a) H'
theorem scNodes : FnScope ["_law_tree_here", "_law_nodes_here", "_law_texts", "_law_left", "_law_node", "_law_place", "_law_elder", "_law_last", "_law_k"] ["_law_tree_here"] (defScope sNodes) := ⟨rfl, rfl, rfl, by decide +kernel, rfl, by decide +kernel, by decide +kernel⟩
theorem ok_nodes {f : Addr} {fd : FuncData} (B : Blt mg) (F : Fun K "_law_nodes" "_law_nodes" sNodes f fd) : FnOk P w K mg base CX0 1 f fd ["_law_tree_here"] spNodes := by
  refine F.ok scNodes (fun vs H Q E h => ?_) (fun cdv A0 outer s H vs Q E hr h => ?_)
  · obtain ⟨v, t, k, m, cs, rfl, _⟩ := h; rfl
  · obtain ⟨v, t, k0, m0, cs0, rfl, et, hT, hsz, q⟩ := h
    refine ⟨_, (pss_cons (ps_set (i := 1) scNodes.nd rfl (.inl rfl) pe_dnewT)
      (pss_cons (ps_set (i := 2) scNodes.nd rfl (.inl rfl) (pe_lst pa_nil))
      (pss_cons (ps_set (i := 3) scNodes.nd rfl (.inl rfl) (pe_lst (pa_cons (pe_tup (pa_cons (pv 0) (pa_cons (pe_tup pa_nil) (pa_cons pe_non pa_nil)))) pa_nil)))
      (pss_cons (ps_while (PassesOwn.never) (pt_cmpR op_gt (pe_callB call_len (by rfl) B.len PySem.boot_len (pa_cons (pv 3) pa_nil)) pe_int (nomark _))
      (pss_cons (ps_asg (pe_bm0 PySem.F.plainAttrs_list PySem.F.slot_list_pop PySem.F.type_list_pop mt_pop (pv 3)) (pg_tup rfl (pgs_cons (pg_name (i := 4) scNodes.nd rfl (.inl rfl)) (pgs_cons (pg_name (i := 5) scNodes.nd rfl (.inl rfl)) (pgs_cons (pg_name (i := 6) scNodes.nd rfl (.inl rfl)) pgs_nil)))))
       (pss_cons (ps_if (pt_val (pe_callB call_isi (by rfl) B.isi (by decide +kernel) (pa_cons (pv 4) (pa_cons (pe_bltn (v := .ty "str") (by rfl) B.str (by decide +kernel) rfl) pa_nil))))
       (pss_cons (ps_expr (pe_bm PySem.F.plainAttrs_list PySem.F.slot_list_append PySem.F.type_list_append mt_append (pv 2) (pa_cons (pv 5) pa_nil)))
        (pss_one ps_continue))
       pss_nil)
       (pss_cons (ps_dput (hu_of hr) (pv 1) (pv 5) (pe_tup (pa_cons (pe_ix ix_tup (pv 4) pe_int (fun _ _ => rfl)) (pa_cons (pe_ix ix_tup (pv 4) pe_int (fun _ _ => rfl)) (pa_cons (pv 6) (pa_cons (pe_callB call_len (by rfl) B.len PySem.boot_len (pa_cons (pe_ix ix_tup (pv 4) pe_int (fun _ _ => rfl)) pa_nil)) pa_nil))))) rfl)
       (pss_cons (ps_set (i := 7) scNodes.nd rfl (.inl rfl) pe_non)
       (pss_one (ps_for (PassesOwn.never) rfl (pi_range1 (by rfl) B.range (pa_cons (pe_callB call_len (by rfl) B.len PySem.boot_len (pa_cons (pe_ix ix_tup (pv 4) pe_int (fun _ _ => rfl)) pa_nil)) pa_nil)) (pg_name (i := 8) scNodes.nd rfl (.inl rfl))
       (pss_cons (ps_expr (pe_bm PySem.F.plainAttrs_list PySem.F.slot_list_append PySem.F.type_list_append mt_append (pv 3) (pa_cons (pe_tup (pa_cons (pe_ix ix_tup (pe_ix ix_tup (pv 4) pe_int (fun _ _ => rfl)) (pv 8) (fun _ _ => rfl)) (pa_cons (pe_op op_catA (pv 5) (pe_tup (pa_cons (pv 8) pa_nil))) (pa_cons (pv 7) pa_nil)))) pa_nil)))
        (pss_one (ps_if (pt_not (pt_val (pe_callB call_isi (by rfl) B.isi (by decide +kernel) (pa_cons (pe_ix ix_tup (pe_ix ix_tup (pv 4) pe_int (fun _ _ => rfl)) (pv 8) (fun _ _ => rfl)) (pa_cons (pe_bltn (v := .ty "str") (by rfl) B.str (by decide +kernel) rfl) pa_nil)))))
        (pss_one (ps_set (i := 7) scNodes.nd rfl (.inl rfl) (pe_op op_catA (pv 5) (pe_tup (pa_cons (pv 8) pa_nil)))))
        pss_nil))))))))))
      (pss_one (ps_ret (pe_lst (pa_cons (pv 1) (pa_cons (pv 2) pa_nil))))))))), ?_⟩
    have z3 : 3 ≤ sizeLine := by decide
    have z1 : 1 ≤ sizeLine := by decide
    refine fun D nD => ⟨Nat.zero_le _, fun X nX => ?_⟩
    have nDX : D ≠ X := ne_of_none (o := .dT []) upd_same nX
    have s2 : Same H (upd (upd H D (.dT [])) X (.lst [])) := same_new2 (same_new nD) nX
    have eD : (upd (upd H D (.dT [])) X (.lst [])) D = some (.dT []) := by rw [upd_ne nDX]; exact upd_same
    have eX : (upd (upd H D (.dT [])) X (.lst [])) X = some (.lst []) := upd_same
    have nXH : H X = none := by rw [upd_ne (Ne.symm nDX)] at nX; exact nX
    generalize upd (upd H D (.dT [])) X (.lst []) = H0 at s2 eD eX ⊢
    refine ⟨v, rfl, Nat.zero_le _, fun e0 ne0 => ⟨z3, fun a0 na0 => ⟨z1, fun L nL => ?_⟩⟩⟩
    have s3 : Same H0 (upd (upd H0 e0 (.tup [])) a0 (.tup [v, .ref e0, .non])) := same_new2 (same_new ne0) na0
    have ea : (upd (upd H0 e0 (.tup [])) a0 (.tup [v, .ref e0, .non])) a0 = some (.tup [v, .ref e0, .non]) := upd_same
    have ee : (upd (upd H0 e0 (.tup [])) a0 (.tup [v, .ref e0, .non])) e0 = some (.tup []) := same_new na0 _ _ upd_same
    have eD1 := s3 _ _ eD
    have eX1 := s3 _ _ eX
    generalize upd (upd H0 e0 (.tup [])) a0 (.tup [v, .ref e0, .non]) = H1 at s3 ea ee eD1 eX1 nL ⊢
    have nDL : D ≠ L := ne_of_none eD1 nL
    have nXL : X ≠ L := ne_of_none eX1 nL
    have s4 := same_new nL (o := .lst [V.ref a0])
    have sAll := s2.trans (s3.trans s4)
    have nLH : H L = none := (s2.trans s3).free nL
    have nd0 : NdOk (upd H1 L (.lst [V.ref a0])) t ⟨a0, e0, v, .non, [], t⟩ := ⟨s4 _ _ ea, s4 _ _ ee, hT.mono (Same.tups sAll), rfl, rfl⟩
    refine ⟨fun n σ H' => ∃ (y4 y5 y6 y7 y8 : Option V) (kvs : List (List Key × V)) (us : List V) (ps : List (List Int)) (nds : List Nd), σ = [some v, some (.ref D), some (.ref X), some (.ref L), y4, y5, y6, y7, y8] ∧ Same H H' ∧ H' D = some (.dT kvs) ∧ Sound H' t kvs ∧ H' X = some (.lst us) ∧ PlacesAt H' us ps ∧ (∀ p ∈ ps, ∃ z, atP t p = some (.txt z)) ∧ H' L = some (.lst (nrefs nds)) ∧ (∀ d ∈ nds, NdOk H' t d) ∧ Cover t kvs nds ∧ ntot nds = n ∧ kvs.length + us.length + ntot nds ≤ sz t,
      ⟨sz t, none, none, none, none, none, [], [], [], [⟨a0, e0, v, .non, [], t⟩], rfl, sAll, s4 _ _ eD1, fun K' v h => by simp [valV_nil] at h, s4 _ _ eX1, PlacesAt.nil, fun p h => absurd h List.not_mem_nil, upd_same, fun d hd => by rw [List.mem_singleton.mp hd]; exact nd0, fun ns _ => .inr ⟨_, List.mem_singleton.mpr rfl, ns, rfl⟩, by simp [ntot], by simp [ntot]⟩, ?_⟩
    clear s2 s3 s4 sAll ea ee eD eX eD1 eX1 nd0
    rintro n σ H' ⟨y4, y5, y6, y7, y8, kvs, us, ps, nds, rfl, sm, hD, snd, hX, hpl, htx, hL, hok, cov, hm, hb⟩
    refine ⟨.ref L, rfl, .ref L, _, rfl, .inl ⟨_, SqL.of hL, rfl⟩, _, 0, rfl, rfl, _, rfl, ite2 (fun hgt => ?_) (fun hgt => ?_)⟩
    · have hgt' : (0 : Int) < ((nrefs nds).length : Int) := of_decide_eq_true hgt
      have hne : nds ≠ [] := by intro e; subst e; simp [nrefs] at hgt'
      obtain ⟨pre, d, rfl⟩ : ∃ pre d, nds = pre ++ [d] := ⟨nds.dropLast, nds.getLast hne, (List.dropLast_concat_getLast hne).symm⟩
      have hL' : H' L = some (.lst (nrefs pre ++ [.ref d.a])) := by rw [hL]; simp [nrefs]
      have hlast : (nrefs pre ++ [V.ref d.a])[(nrefs pre ++ [V.ref d.a]).length - 1]? = some (.ref d.a) := by
        rw [List.length_append, List.length_singleton, Nat.add_sub_cancel, List.getElem?_concat_length]
      have dok := hok d (by simp)
      rw [ntot_append] at hm hb
      have hm1 : ntot pre + sz d.u = n := by simp only [ntot] at hm; omega
      have hb1 : kvs.length + us.length + (ntot pre + sz d.u) ≤ sz t := by simp only [ntot] at hb; omega
      have hdp := sz_pos d.u
      refine ⟨fun σ' H'' => ∃ n', n' < n ∧ ∃ (y4 y5 y6 y7 y8 : Option V) (kvs : List (List Key × V)) (us : List V) (ps : List (List Int)) (nds : List Nd), σ' = [some v, some (.ref D), some (.ref X), some (.ref L), y4, y5, y6, y7, y8] ∧ Same H H'' ∧ H'' D = some (.dT kvs) ∧ Sound H'' t kvs ∧ H'' X = some (.lst us) ∧ PlacesAt H'' us ps ∧ (∀ p ∈ ps, ∃ z, atP t p = some (.txt z)) ∧ H'' L = some (.lst (nrefs nds)) ∧ (∀ d ∈ nds, NdOk H'' t d) ∧ Cover t kvs nds ∧ ntot nds = n' ∧ kvs.length + us.length + ntot nds ≤ sz t, fun _ _ h => h, ?_⟩
      refine ⟨.ref L, rfl, .inl ⟨rfl, _, SqL.of hL'⟩, L, _, .ref d.a, rfl, rfl, hL', hlast, ?_⟩
      rw [List.dropLast_concat]
      have t1 : SameT H' (upd H' L (.lst (nrefs pre))) := SameT.lst hL'
      have sm1 : Same H (upd H' L (.lst (nrefs pre))) := same_at sm nLH
      have hD1 : upd H' L (.lst (nrefs pre)) D = some (.dT kvs) := by rw [upd_ne nDL]; exact hD
      have hX1 : upd H' L (.lst (nrefs pre)) X = some (.lst us) := by rw [upd_ne nXL]; exact hX
      have hL1 : upd H' L (.lst (nrefs pre)) L = some (.lst (nrefs pre)) := upd_same
      have ok1 : ∀ e ∈ pre, NdOk (upd H' L (.lst (nrefs pre))) t e := fun e he => (hok e (by simp [he])).tups t1
      have dok1 := dok.tups t1
      have snd1 := snd.tups t1
      have hpl1 := PlacesAt.tups hpl fun _ _ h => t1 _ _ h
      generalize upd H' L (.lst (nrefs pre)) = H3 at sm1 hD1 hX1 hL1 ok1 dok1 snd1 hpl1 ⊢
      obtain ⟨da, dq, dx, dev, dns, du⟩ := d
      dsimp only at *
      refine ⟨da, _, rfl, SqT.of dok1.ha, rfl, dx, _, rfl, .ref dq, _, rfl, dev, _, rfl, rfl, ?_⟩
      obtain ⟨ty, v1, v2⟩ := isi_w (K := K) dok1.hx
      refine ⟨dx, rfl, dx, .ty "str", ty, .type "str", isTxt du, rfl, .ty "str", v1, v2, _, rfl, ?_⟩
      cases du with
      | txt z =>
        refine iteT ⟨.ref X, rfl, .inl ⟨rfl, _, SqL.of hX1⟩, .ref dq, rfl, X, us, .ref dq, rfl, rfl, hX1, small1000 (by omega), ?_⟩
        have t2 : SameT H3 (upd H3 X (.lst (us ++ [.ref dq]))) := SameT.lst hX1
        have hlt : ntot pre < n := by omega
        have hd : atP t dns = some (.txt z) := dok1.ht
        have hqt : H3 dq = some (.tup (dns.map V.int)) := dok1.hq
        refine ⟨ntot pre, hlt, some dx, some (.ref dq), some dev, y7, y8, kvs, us ++ [.ref dq], ps ++ [dns], pre, rfl, same_at sm1 nXH, by rw [upd_ne nDX]; exact hD1, snd1.tups t2, upd_same, (PlacesAt.tups hpl1 fun _ _ h => t2 _ _ h).snoc (t2 _ _ hqt), fun p hp => ?_, by rw [upd_ne (Ne.symm nXL)]; exact hL1, fun e he => (ok1 e he).tups t2, fun ns hns => ?_, rfl, by rw [List.length_append, List.length_singleton]; omega⟩
        · rcases List.mem_append.mp hp with h | h
          · exact htx p h
          · rw [List.mem_singleton.mp h]; exact ⟨z, hd⟩
        · rcases cov ns hns with h | ⟨e, he, r, hr⟩
          · exact .inl h
          · rcases List.mem_append.mp he with h | h
            · exact .inr ⟨e, h, r, hr⟩
            · rw [List.mem_singleton.mp h] at hr
              exfalso
              obtain ⟨k, m, cs, hk⟩ := hns
              have hr' : ns = dns ++ r := hr
              rw [hr', atP_append, hd, Option.bind_some] at hk
              cases r with
              | nil => simp [atP] at hk
              | cons i r => simp [atP, step1, kids] at hk
      | el k m cs =>
        obtain ⟨xa, xb, ws, rfl, h1, h2, hall⟩ := dok1.hx.el_inv
        have hwl := hall.1
        have hcl := szs_len cs
        have hsz' : sz (.el k m cs) = 1 + szs cs := rfl
        have hqt : H3 dq = some (.tup (dns.map V.int)) := dok1.hq
        have hd : atP t dns = some (.el k m cs) := dok1.ht
        refine iteF ⟨.ref xa, rfl, xa, _, 0, .str k, rfl, rfl, SqT.of h1, atI_nat (j := 0) rfl, .ref xa, rfl, xa, _, 1, .str m, rfl, rfl, SqT.of h1, atI_nat (j := 1) rfl, dev, rfl, .ref xa, rfl, xa, _, 2, .ref xb, rfl, rfl, SqT.of h1, atI_nat (j := 2) rfl, .ref xb, ws.length, rfl, .inr ⟨_, SqT.of h2, rfl⟩, by show 4 ≤ sizeLine; decide, fun b nb => ?_⟩
        have sb := same_new nb (o := .tup [.str k, .str m, dev, .int (ws.length : Int)])
        have eb : (upd H3 b (.tup [.str k, .str m, dev, .int (ws.length : Int)])) b = some (.tup [.str k, .str m, dev, .int (ws.length : Int)]) := upd_same
        have hDb := sb _ _ hD1
        refine ⟨.ref D, rfl, .ref dq, rfl, D, _, rfl, DPut.t hDb (k := kk dns) (by rw [kk_kV]; exact sb _ _ hqt) (small1000 (by omega)), ?_⟩
        generalize upd H3 b (.tup [.str k, .str m, dev, .int (ws.length : Int)]) = H4 at sb eb hDb ⊢
        have t5 : SameT H4 (upd H4 D (.dT (putK kvs (kk dns) (.ref b)))) := fun a xs e => by rw [upd_ne (ne_of e hDb (by intro z; cases z))]; exact e
        have t35 : SameT H3 (upd H4 D (.dT (putK kvs (kk dns) (.ref b)))) := (Same.tups sb).trans t5
        have sm5 : Same H (upd H4 D (.dT (putK kvs (kk dns) (.ref b)))) := same_at (sm1.trans sb) nD
        have hD5 : (upd H4 D (.dT (putK kvs (kk dns) (.ref b)))) D = some (.dT (putK kvs (kk dns) (.ref b))) := upd_same
        have hX5 : (upd H4 D (.dT (putK kvs (kk dns) (.ref b)))) X = some (.lst us) := by rw [upd_ne (Ne.symm nDX)]; exact sb _ _ hX1
        have hL5 : (upd H4 D (.dT (putK kvs (kk dns) (.ref b)))) L = some (.lst (nrefs pre)) := by rw [upd_ne (Ne.symm nDL)]; exact sb _ _ hL1
        have snd5 : Sound (upd H4 D (.dT (putK kvs (kk dns) (.ref b)))) t (putK kvs (kk dns) (.ref b)) := fun K' v e => by
          rw [valV_put] at e
          by_cases hK : K' = kk dns
          · rw [if_pos hK] at e
            cases e
            exact ⟨dns, k, m, cs, hK, hd, b, dev, rfl, by rw [← hwl]; exact t5 _ _ eb, dok1.he.tups t35⟩
          · rw [if_neg hK] at e
            exact (snd1.tups t35) K' v e
        have hpl5 := PlacesAt.tups hpl1 fun _ _ h => t35 _ _ h
        have ok5 : ∀ e ∈ pre, NdOk (upd H4 D (.dT (putK kvs (kk dns) (.ref b)))) t e := fun e he => (ok1 e he).tups t35
        have hall5 := hall.mono t35
        have h15 := t35 _ _ h1
        have h25 := t35 _ _ h2
        have hq5 := t35 _ _ hqt
        have hkl := putK_len (kvs := kvs) (k := kk dns) (v := .ref b)
        have cov5 : ∀ ns, (∃ k m cs, atP t ns = some (.el k m cs)) → (valV (putK kvs (kk dns) (.ref b)) (kk ns)).isSome = true ∨ (∃ e ∈ pre, ∃ r, ns = e.ns ++ r) ∨ ∃ j r, j < cs.length ∧ ns = (dns ++ [((j : Nat) : Int)]) ++ r := fun ns hns => by
          rw [valV_put]
          by_cases hK : kk ns = kk dns
          · rw [if_pos hK]; exact .inl rfl
          · rw [if_neg hK]
            rcases cov ns hns with h | ⟨e, he, r, hr⟩
            · exact .inl h
            · rcases List.mem_append.mp he with h | h
              · exact .inr (.inl ⟨e, h, r, hr⟩)
              · rw [List.mem_singleton.mp h] at hr
                have hr' : ns = dns ++ r := hr
                cases r with
                | nil => rw [List.append_nil] at hr'; exact absurd (by rw [hr']) hK
                | cons i r =>
                  obtain ⟨k1, m1, cs1, hk⟩ := hns
                  rw [hr', atP_append, hd, Option.bind_some] at hk
                  simp only [atP, step1, kids] at hk
                  by_cases h0 : 0 ≤ i
                  · rw [if_pos h0] at hk
                    have hlt : i.toNat < cs.length := by
                      cases hc : cs[i.toNat]? with
                      | none => rw [hc] at hk; cases hk
                      | some c => exact (List.getElem?_eq_some_iff.mp hc).1
                    refine .inr (.inr ⟨i.toNat, r, hlt, ?_⟩)
                    rw [hr', show ((i.toNat : Nat) : Int) = i by omega]; simp
                  · rw [if_neg h0] at hk; cases hk
        generalize upd H4 D (.dT (putK kvs (kk dns) (.ref b))) = H5 at t5 t35 sm5 hD5 hX5 hL5 snd5 hpl5 ok5 hall5 h15 h25 hq5 ⊢
        generalize putK kvs (kk dns) (.ref b) = kvs5 at hD5 snd5 hkl cov5
        refine ⟨.ref xa, rfl, xa, _, 2, .ref xb, rfl, rfl, SqT.of h15, atI_nat (j := 2) rfl, .ref xb, ws.length, rfl, .inr ⟨_, SqT.of h25, rfl⟩, (ws.length : Int), rfl, by omega, by omega, ?_⟩
        rw [Int.toNat_natCast]
        refine for_range (lo := 0) (n := ws.length) (fun i σ H' => ∃ (last : V) (y8 : Option V) (add : List Nd), σ = [some v, some (.ref D), some (.ref X), some (.ref L), some (.ref xa), some (.ref dq), some dev, some last, y8] ∧ Same H H' ∧ SameT H5 H' ∧ H' D = some (.dT kvs5) ∧ H' X = some (.lst us) ∧ EvAt H' last ((elder cs i).map fun (j : Nat) => dns ++ [(j : Int)]) ∧ H' L = some (.lst (nrefs (pre ++ add))) ∧ (∀ e ∈ pre ++ add, NdOk H' t e) ∧ ntot add = szs (cs.take i) ∧ add.length = i ∧ ∀ j, j < i → ∃ e ∈ add, e.ns = dns ++ [((j : Nat) : Int)])
          ⟨.non, y8, [], rfl, sm5, SameT.refl _, hD5, hX5, rfl, by rw [List.append_nil]; exact hL5, by rw [List.append_nil]; exact ok5, rfl, rfl, fun j h => by omega⟩ ?_ ?_
        · rintro i σ H6 hi ⟨last, y8, add, rfl, sm6, t6, hD6, hX6, he6, hL6, ok6, htot, hal, hcov⟩
          have e0 : (0 : Int) + (i : Int) = (i : Int) := by omega
          rw [e0]
          have hc : cs[i]? = some (cs[i]'(by omega)) := List.getElem?_eq_getElem _
          obtain ⟨xc, hxc, hTc⟩ := (hall5.mono t6).get hc
          generalize hci : cs[i]'(by omega) = ci at hc hTc
          have hnl : (nrefs (pre ++ add)).length ≤ 900 := by
            have h3 := ntot_len pre
            simp only [nrefs, List.length_map, List.length_append]; omega
          have hnsl : dns.length ≤ 900 := by have := atP_sz hd; omega
          refine ⟨.ref L, rfl, .inl ⟨rfl, _, SqL.of hL6⟩, .ref xa, rfl, xa, _, 2, .ref xb, rfl, rfl, SqT.of (t6 _ _ h15), atI_nat (j := 2) rfl, .int (i : Int), rfl, xb, ws, _, xc, rfl, rfl, SqT.of (t6 _ _ h25), atI_nat hxc, .ref dq, rfl, .int (i : Int), rfl, z1, fun j nj => ?_⟩
          have sj := same_new nj (o := .tup [.int (i : Int)])
          refine catA (sj _ _ (t6 _ _ hq5)) upd_same (by rw [List.length_map]; show dns.length + 1 ≤ 1000; omega) fun H7 pl s7 hplc => ⟨last, rfl, z3, fun a na => ?_⟩
          have hpl7 : H7 pl = some (.tup ((dns ++ [(i : Int)]).map V.int)) := by rw [hplc, List.map_append]; rfl
          have s67 := sj.trans s7
          have sa := same_new na (o := .tup [xc, .ref pl, last])
          have hL8 := sa _ _ (s67 _ _ hL6)
          refine ⟨L, _, .ref a, rfl, rfl, hL8, small1000 (by omega), ?_⟩
          have tA : SameT (upd H7 a (.tup [xc, .ref pl, last])) (upd (upd H7 a (.tup [xc, .ref pl, last])) L (.lst (nrefs (pre ++ add) ++ [.ref a]))) := SameT.lst hL8
          have t68 : SameT H6 (upd (upd H7 a (.tup [xc, .ref pl, last])) L (.lst (nrefs (pre ++ add) ++ [.ref a]))) := (Same.tups (s67.trans sa)).trans tA
          have sm8 : Same H (upd (upd H7 a (.tup [xc, .ref pl, last])) L (.lst (nrefs (pre ++ add) ++ [.ref a]))) := same_at (sm6.trans (s67.trans sa)) nLH
          have hD8 : (upd (upd H7 a (.tup [xc, .ref pl, last])) L (.lst (nrefs (pre ++ add) ++ [.ref a]))) D = some (.dT kvs5) := by rw [upd_ne nDL]; exact sa _ _ (s67 _ _ hD6)
          have hX8 : (upd (upd H7 a (.tup [xc, .ref pl, last])) L (.lst (nrefs (pre ++ add) ++ [.ref a]))) X = some (.lst us) := by rw [upd_ne nXL]; exact sa _ _ (s67 _ _ hX6)
          have hLn : (upd (upd H7 a (.tup [xc, .ref pl, last])) L (.lst (nrefs (pre ++ add) ++ [.ref a]))) L = some (.lst (nrefs (pre ++ (add ++ [⟨a, pl, xc, last, dns ++ [(i : Int)], ci⟩])))) := by rw [upd_same]; simp [nrefs]
          have hat : atP t (dns ++ [((i : Nat) : Int)]) = some ci := by rw [atP_snoc, hd, Option.bind_some, step1_nat]; exact hc
          have okn : NdOk (upd (upd H7 a (.tup [xc, .ref pl, last])) L (.lst (nrefs (pre ++ add) ++ [.ref a]))) t ⟨a, pl, xc, last, dns ++ [(i : Int)], ci⟩ :=
            ⟨tA _ _ upd_same, tA _ _ (sa _ _ hpl7), hTc.mono t68, hat, by show EvAt _ last (eldP t (dns ++ [((i : Nat) : Int)])); rw [eldP_snoc hd]; exact he6.tups t68⟩
          have ok8 : ∀ e ∈ pre ++ (add ++ [⟨a, pl, xc, last, dns ++ [(i : Int)], ci⟩]), NdOk (upd (upd H7 a (.tup [xc, .ref pl, last])) L (.lst (nrefs (pre ++ add) ++ [.ref a]))) t e := fun e he => by
            rw [← List.append_assoc] at he
            rcases List.mem_append.mp he with h | h
            · exact (ok6 e h).tups t68
            · rw [List.mem_singleton.mp h]; exact okn
          have he8 := he6.tups t68
          have hT8 := hTc.mono t68
          have h18 := t68 _ _ (t6 _ _ h15)
          have h28 := t68 _ _ (t6 _ _ h25)
          have hq8 := t68 _ _ (t6 _ _ hq5)
          have t58 := t6.trans t68
          generalize upd (upd H7 a (.tup [xc, .ref pl, last])) L (.lst (nrefs (pre ++ add) ++ [.ref a])) = H8 at tA t68 sm8 hD8 hX8 hLn ok8 he8 hT8 h18 h28 hq8 t58 ⊢
          have tot8 : ntot (add ++ [⟨a, pl, xc, last, dns ++ [(i : Int)], ci⟩]) = szs (cs.take (i + 1)) := by rw [ntot_append, htot, szs_take hc]; simp [ntot]
          have len8 : (add ++ [⟨a, pl, xc, last, dns ++ [(i : Int)], ci⟩] : List Nd).length = i + 1 := by rw [List.length_append, hal]; rfl
          have cov8 : ∀ j, j < i + 1 → ∃ e ∈ (add ++ [⟨a, pl, xc, last, dns ++ [(i : Int)], ci⟩] : List Nd), e.ns = dns ++ [((j : Nat) : Int)] := fun j hj => by
            by_cases hji : j < i
            · obtain ⟨e, he, hen⟩ := hcov j hji
              exact ⟨e, List.mem_append_left _ he, hen⟩
            · obtain rfl : j = i := by omega
              exact ⟨_, List.mem_append_right _ (List.mem_singleton.mpr rfl), rfl⟩
          generalize (add ++ [⟨a, pl, xc, last, dns ++ [(i : Int)], ci⟩] : List Nd) = add8 at hLn ok8 tot8 len8 cov8
          obtain ⟨ty, w1, w2⟩ := isi_w (K := K) hT8
          refine ⟨.ref xa, rfl, xa, _, 2, .ref xb, rfl, rfl, SqT.of h18, atI_nat (j := 2) rfl, .int (i : Int), rfl, xb, ws, _, xc, rfl, rfl, SqT.of h28, atI_nat hxc, xc, .ty "str", ty, .type "str", isTxt ci, rfl, .ty "str", w1, w2, _, rfl, ?_⟩
          have est := elder_step hc
          cases hit : isTxt ci with
          | true =>
            rw [hit, if_pos rfl] at est
            refine iteF ⟨last, _, add8, rfl, sm8, t58, hD8, hX8, by rw [est]; exact he8, hLn, ok8, tot8, len8, cov8⟩
          | false =>
            rw [hit, if_neg Bool.false_ne_true] at est
            refine iteT ⟨.ref dq, rfl, .int (i : Int), rfl, z1, fun j2 nj2 => ?_⟩
            have sj2 := same_new nj2 (o := .tup [.int (i : Int)])
            refine catA (sj2 _ _ hq8) upd_same (by rw [List.length_map]; show dns.length + 1 ≤ 1000; omega) fun H9 pl2 s9 hpl2 => ?_
            have s89 := sj2.trans s9
            refine ⟨.ref pl2, _, add8, rfl, sm8.trans s89, t58.trans (Same.tups s89), s89 _ _ hD8, s89 _ _ hX8, ?_, s89 _ _ hLn, fun e he => (ok8 e he).tups (Same.tups s89), tot8, len8, cov8⟩
            rw [est]
            exact ⟨pl2, rfl, by rw [hpl2, List.map_append]; rfl⟩
        · rintro σ H6 ⟨last, y8, add, rfl, sm6, t6, hD6, hX6, he6, hL6, ok6, htot, hal, hcov⟩
          have htk : cs.take ws.length = cs := by rw [hwl, List.take_length]
          rw [htk] at htot
          refine ⟨ntot (pre ++ add), by rw [ntot_append]; omega, some (.ref xa), some (.ref dq), some dev, some last, y8, kvs5, us, ps, pre ++ add, rfl, sm6, hD6, snd5.tups t6, hX6, PlacesAt.tups hpl5 fun _ _ h => t6 _ _ h, htx, hL6, ok6, fun ns hns => ?_, rfl, by rw [ntot_append]; omega⟩
          rcases cov5 ns hns with h | ⟨e, he, r, hr⟩ | ⟨j, r, hj, hr⟩
          · exact .inl h
          · exact .inr ⟨e, List.mem_append_left _ he, r, hr⟩
          · obtain ⟨e, he, hen⟩ := hcov j (by omega)
            exact .inr ⟨e, List.mem_append_right _ he, r, by rw [hen]; exact hr⟩
    · have hz : nds = [] := by
        cases nds with
        | nil => rfl
        | cons d ds => exact absurd (decide_eq_true (show (0 : Int) < ((nrefs (d :: ds)).length : Int) by simp [nrefs])) hgt
      subst hz
      refine ⟨.ref D, rfl, .ref X, rfl, by show 2 ≤ sizeLine; decide, fun a na => ?_⟩
      have sa := same_new na (o := .lst [.ref D, .ref X])
      refine q _ a D X kvs us ps (sm.trans sa) upd_same (sa _ _ hD) (snd.tups (Same.tups sa)) (fun ns hns => ?_) (by omega) (sa _ _ hX) (hpl.same sa) htx (by omega) nD nXH
      rcases cov ns hns with h | ⟨e, he, _⟩
      · exact h
      · exact absurd he List.not_mem_nil
end
end K09

set_option maxRecDepth 100000
set_option maxHeartbeats 4000000
namespace K09
open PySem PySem.Spec PyProof.Rows L2
/-! ### links as the law writes them -/
def sepS (l : Nat) : Str := if l = 0 then Str.ofString " " else if l = 1 then Str.ofString " > " else Str.ofString " + "
theorem tl_sep {l : Nat} (h : l ≤ 2) : tl (sepS l) = sepL l := by
  match l, h with
  | 0, _ => decide +kernel
  | 1, _ => decide +kernel
  | 2, _ => decide +kernel
abbrev sv (l : Nat) : V := .str (sepS l)
theorem sep_len {l : Nat} (h : l ≤ 2) : (sepL l).length ≤ 3 := by
  match l, h with
  | 0, _ => decide
  | 1, _ => decide
  | 2, _ => decide
/-- the first k tests as they are written -/
def upTo (x : Tst) (rs : List (Nat × Tst)) : Nat → List Nat
  | 0 => []
  | n + 1 => textL x (rs.take n)
theorem upTo_step {x : Tst} {rs : List (Nat × Tst)} {n : Nat} {r : Nat × Tst} (h : rs[n]? = some r) : upTo x rs (n + 2) = upTo x rs (n + 1) ++ sepL r.1 ++ wordL r.2 := by
  show textL x (rs.take (n + 1)) = textL x (rs.take n) ++ sepL r.1 ++ wordL r.2
  unfold textL
  rw [List.take_add_one, h]
  simp
theorem textL_len {x : Tst} (hx : GoodT x) : ∀ rs : List (Nat × Tst), (∀ r ∈ rs, r.1 ≤ 2 ∧ GoodT r.2) → (textL x rs).length ≤ 17 + 20 * rs.length := fun rs => by
  unfold textL
  induction rs with
  | nil => intro _; have := (word_len hx).2; simpa using this
  | cons r rs ih =>
    intro h
    have h1 := ih fun q hq => h q (List.mem_cons_of_mem _ hq)
    obtain ⟨a, b⟩ := h r List.mem_cons_self
    have h2 := sep_len a; have h3 := (word_len b).2
    simp only [List.flatMap_cons, List.length_append, List.length_cons] at h1 ⊢
    omega
theorem upTo_len {x : Tst} (hx : GoodT x) {rs : List (Nat × Tst)} (h : ∀ r ∈ rs, r.1 ≤ 2 ∧ GoodT r.2) (hl : rs.length ≤ 3) (n : Nat) : (upTo x rs n).length ≤ 77 := by
  cases n with
  | zero => simp [upTo]
  | succ n =>
    have h1 := textL_len hx (rs.take n) fun r hr => h r (List.mem_of_mem_take hr)
    have h2 : (rs.take n).length ≤ rs.length := by rw [List.length_take]; omega
    show (textL x (rs.take n)).length ≤ _
    omega
/-- a pattern as the law draws it: tests, links -/
structure Drawn (H : Hp) (a b : Addr) (x : Tst) (rs : List (Nat × Tst)) : Prop where
  tests : ∃ us, H a = some (.lst us) ∧ TstsAt H us (x :: rs.map (·.2))
  links : H b = some (.lst ((rs.map (·.1)).map sv))
  gx : GoodT x
  gr : ∀ r ∈ rs, r.1 ≤ 2 ∧ GoodT r.2
  len : rs.length ≤ 3
theorem Drawn.same {H H' : Hp} {a b : Addr} {x : Tst} {rs : List (Nat × Tst)} (h : Drawn H a b x rs) (s : Same H H') : Drawn H' a b x rs := by
  obtain ⟨⟨us, h1, h2⟩, h3, h4, h5, h6⟩ := h
  exact ⟨⟨us, s _ _ h1, h2.same s⟩, s _ _ h3, h4, h5, h6⟩
section
variable {P : Program} {w : World} {K : PySem.W.Frag} {mg : Str → Option Value} {base : Heap} {t1 t2 t3 t4 t5 t6 : Tok}
/-! ### _law_written -/
def spWritten : Sp := fun vs H Q _ => ∃ (a b : Addr) (x : Tst) (rs : List (Nat × Tst)), vs = [.ref a, .ref b] ∧ Drawn H a b x rs ∧ ∀ z, tl z = textL x rs → Q (.str z) H
theorem scWritten : FnScope ["_law_tests", "_law_links", "_law_text", "_law_k"] ["_law_tests", "_law_links"] (defScope sWritten) := ⟨rfl, rfl, rfl, by decide +kernel, rfl, by decide +kernel, by decide +kernel⟩
theorem tl_empty : tl (Str.ofString "") = [] := by decide +kernel
theorem add_room {a b : Str} {n : Nat} (ha : (tl a).length ≤ n) (hb : (tl b).length ≤ 100) (hn : n ≤ 800) : a.length + b.length ≤ sizeLine := by
  rw [← tl_len, ← tl_len, sizeLine_eq]; omega
theorem ok_written {f : Addr} {fd : FuncData} (B : Blt mg) (F : Fun K "_law_written" "_law_written" sWritten f fd) : FnOk P w K mg base CX0 1 f fd ["_law_tests", "_law_links"] spWritten := by
  refine F.ok scWritten (fun vs H Q E h => ?_) (fun cdv A0 outer s H vs Q E hr h => ?_)
  · obtain ⟨a, b, x, rs, rfl, _⟩ := h; rfl
  · obtain ⟨a, b, x, rs, rfl, ⟨⟨us, hus, hT⟩, hls, gx, gr, h3⟩, q⟩ := h
    have hul : us.length = rs.length + 1 := by rw [hT.1]; simp
    refine ⟨_, (pss_cons (ps_set (i := 2) scWritten.nd rfl (.inl rfl) pe_str)
      (pss_cons (ps_for (PassesOwn.never) rfl (pi_range1 (by rfl) B.range (pa_cons (pe_callB call_len (by rfl) B.len PySem.boot_len (pa_cons (pv 0) pa_nil)) pa_nil)) (pg_name (i := 3) scWritten.nd rfl (.inl rfl))
      (Evl.pss_cut (ps_if (pt_cmpR op_gt (pv 3) pe_int (nomark _))
       (pss_one (ps_set (i := 2) scWritten.nd rfl (.inl rfl) (pe_op op_add_str (pv 2) (pe_ix ix_list (pv 1) (pe_op op_sub (pv 3) pe_int) (fun _ _ => rfl)))))
       pss_nil)
       (pss_cons (ps_set (i := 2) scWritten.nd rfl (.inl rfl) (pe_op op_add_str (pv 2) (pe_ix ix_tup (pe_ix ix_list (pv 0) (pv 3) (fun _ _ => rfl)) pe_int (fun _ _ => rfl))))
       (pss_one (ps_if (pt_cmpR op_ne (pe_ix ix_tup (pe_ix ix_list (pv 0) (pv 3) (fun _ _ => rfl)) pe_int (fun _ _ => rfl)) pe_str (nomark _))
       (pss_one (ps_set (i := 2) scWritten.nd rfl (.inl rfl) (pe_op op_add_str (pe_op op_add_str (pv 2) pe_str) (pe_ix ix_tup (pe_ix ix_list (pv 0) (pv 3) (fun _ _ => rfl)) pe_int (fun _ _ => rfl)))))
       pss_nil)))))
      (pss_one (ps_ret (pv 2))))), ?_⟩
    refine ⟨.ref a, rfl, .ref a, us.length, rfl, .inl ⟨_, SqL.of hus, rfl⟩, (us.length : Int), rfl, by omega, by omega, ?_⟩
    rw [Int.toNat_natCast]
    refine for_range (lo := 0) (n := us.length) (fun n σ H' => ∃ (z : Str) (y3 : Option V), σ = [some (.ref a), some (.ref b), some (.str z), y3] ∧ H' = H ∧ tl z = upTo x rs n) ⟨_, none, rfl, rfl, tl_empty⟩ ?_ ?_
    · rintro n σ H' hn ⟨z, y3, rfl, rfl, hz⟩
      have e0 : (0 : Int) + (n : Int) = (n : Int) := by omega
      rw [e0]
      have hzl : (tl z).length ≤ 77 := by rw [hz]; exact upTo_len gx gr h3 n
      refine ⟨fun σ H2 => ∃ (z2 : Str) (y : Tst), σ = [some (.ref a), some (.ref b), some (.str z2), some (.int (n : Int))] ∧ H2 = H' ∧ (x :: rs.map (·.2))[n]? = some y ∧ GoodT y ∧ (tl z2).length ≤ 80 ∧ tl z2 ++ wordL y = upTo x rs (n + 1), ?_, ?_⟩
      · refine ⟨.int (n : Int), rfl, (n : Int), 0, rfl, rfl, _, rfl, ite2 (fun hk => ?_) (fun hk => ?_)⟩
        · have h0 : 0 < n := by have := of_decide_eq_true hk; omega
          obtain ⟨m, rfl⟩ : ∃ m, n = m + 1 := ⟨n - 1, by omega⟩
          have hm : rs[m]? = some (rs[m]'(by omega)) := List.getElem?_eq_getElem _
          generalize rs[m]'(by omega) = r at hm
          obtain ⟨g1, g2⟩ := gr r (List.mem_of_getElem? hm)
          have hlk : ((rs.map (·.1)).map sv)[m]? = some (sv r.1) := by rw [List.getElem?_map, List.getElem?_map, hm]; rfl
          have hz3 : (tl (sepS r.1)).length ≤ 3 := by rw [tl_sep g1]; exact sep_len g1
          refine ⟨.str z, rfl, .ref b, rfl, .int ((m + 1 : Nat) : Int), rfl, ((m + 1 : Nat) : Int), 1, rfl, rfl, b, _, ((m + 1 : Nat) : Int) - 1, sv r.1, rfl, rfl, SqL.of hls, at_of (j := m) (by omega) hlk, z, sepS r.1, rfl, rfl, add_room hzl (by omega) (by decide), ?_⟩
          refine ⟨_, r.2, rfl, rfl, by rw [List.getElem?_cons_succ, List.getElem?_map, hm]; rfl, g2, by rw [tl_add, List.length_append]; omega, ?_⟩
          rw [tl_add, hz, tl_sep g1, upTo_step hm]
        · have h0 : n = 0 := by
            have h1 : ¬ (n : Int) > 0 := fun h => hk (decide_eq_true h)
            omega
          subst h0
          refine ⟨z, x, rfl, rfl, rfl, gx, by omega, ?_⟩
          rw [hz]; show [] ++ wordL x = textL x (rs.take 0); simp [textL]
      · rintro σ H2 ⟨z2, y, rfl, rfl, hy, gy, hz2, hw⟩
        obtain ⟨v, t, hv, rfl, ht⟩ := hT.get hy
        have hkl := (kind_len gy).2; have hml := mark_len gy.2
        have hl1 : (tl (z2 ++ y.1)).length ≤ 88 := by rw [tl_add, List.length_append]; omega
        refine ⟨.str z2, rfl, .ref a, rfl, .int (n : Int), rfl, a, us, (n : Int), .ref t, rfl, rfl, SqL.of hus, atI_nat hv, t, _, 0, .str y.1, rfl, rfl, SqT.of ht, atI_nat (j := 0) rfl, z2, y.1, rfl, rfl, add_room hz2 (by omega) (by decide), ?_⟩
        refine ⟨.ref a, rfl, .int (n : Int), rfl, a, us, (n : Int), .ref t, rfl, rfl, SqL.of hus, atI_nat hv, t, _, 1, .str y.2, rfl, rfl, SqT.of ht, atI_nat (j := 1) rfl, rfl, _, rfl, ?_⟩
        rw [eqE]
        by_cases he : tl y.2 = []
        · rw [decide_eq_true he]
          refine iteF ⟨_, _, rfl, rfl, ?_⟩
          rw [tl_add, ← hw]
          unfold wordL
          rw [if_pos he]; simp
        · rw [decide_eq_false he]
          refine iteT ⟨.str (z2 ++ y.1), rfl, z2 ++ y.1, _, rfl, rfl, add_room hl1 (by decide +kernel) (by decide), .ref a, rfl, .int (n : Int), rfl, a, us, (n : Int), .ref t, rfl, rfl, SqL.of hus, atI_nat hv, t, _, 1, .str y.2, rfl, rfl, SqT.of ht, atI_nat (j := 1) rfl, _, y.2, rfl, rfl, add_room (n := 89) (by rw [tl_add, List.length_append]; show _ + 1 ≤ _; omega) (by omega) (by decide), ?_⟩
          refine ⟨_, _, rfl, rfl, ?_⟩
          rw [tl_add, tl_add, tl_add, ← hw]
          unfold wordL
          rw [if_neg he, show tl (Str.ofString ".") = [46] from tl_dot]
          simp
    · rintro σ H' ⟨z, y3, rfl, rfl, hz⟩
      refine ⟨.str z, rfl, q z ?_⟩
      rw [hz, hul]
      show textL x (rs.take rs.length) = _
      rw [List.take_length]
end
end K09

set_option maxRecDepth 100000
set_option maxHeartbeats 4000000
namespace K09
open PySem PySem.Spec PyProof.Rows L2
theorem TstsAt.split {H : Hp} {us : List V} {xs : List Tst} (h : TstsAt H us xs) (hl : 1 ≤ us.length) : ∃ x ys, xs = x :: ys := by
  cases xs with
  | nil => have h2 : us.length = 0 := h.1
           omega
  | cons x ys => exact ⟨x, ys, rfl⟩
/-- tests and links that are as long -/
theorem zip_maps {ls : List Nat} {ys : List Tst} (h : ls.length = ys.length) : (ls.zip ys).map (·.1) = ls ∧ (ls.zip ys).map (·.2) = ys := by
  constructor
  · exact List.map_fst_zip (Nat.le_of_eq h)
  · exact List.map_snd_zip (Nat.le_of_eq h.symm)
theorem drawn_of {H : Hp} {a b : Addr} {us : List V} {x : Tst} {ys : List Tst} {ls : List Nat} (h1 : H a = some (.lst us)) (h2 : TstsAt H us (x :: ys)) (h3 : H b = some (.lst (ls.map sv))) (hl : ls.length = ys.length) (gx : ∀ y ∈ x :: ys, GoodT y) (gl : ∀ l ∈ ls, l ≤ 2) (h4 : ys.length ≤ 3) : Drawn H a b x (ls.zip ys) := by
  obtain ⟨e1, e2⟩ := zip_maps hl
  refine ⟨⟨us, h1, by rw [e2]; exact h2⟩, by rw [e1]; exact h3, gx x List.mem_cons_self, fun r hr => ?_, by rw [List.length_zip]; omega⟩
  obtain ⟨l, y⟩ := r
  obtain ⟨m1, m2⟩ := List.of_mem_zip hr
  exact ⟨gl l m1, gx y (List.mem_cons_of_mem _ m2)⟩
section
variable {P : Program} {w : World} {K : PySem.W.Frag} {mg : Str → Option Value} {base : Heap} {t1 t2 t3 t4 t5 t6 : Tok}
/-! ### _law_free -/
def spFree (K : PySem.W.Frag) : Sp := fun vs H Q _ => ∃ (c : Int) (ka ma : Addr) (ks ms : List Str), vs = [.int c, .ref ka, .ref ma] ∧ H ka = some (.lst (ks.map V.str)) ∧ ks.length = 5 ∧ (∀ z ∈ ks, z = starS ∨ Name z) ∧ H ma = some (.lst (ms.map V.str)) ∧ ms.length = 4 ∧ (∀ z ∈ ms, Mark z) ∧
  ∀ H' p a b x rs, Same H H' → H p = none → H a = none → H b = none → H' p = some (.lst [.ref a, .ref b]) → Drawn H' a b x rs → Q (.ref p) H'
abbrev nFr : List Str := ["_law_cell_here", "_law_kinds", "_law_marks", "_law_row_here", "_law_tests", "_law_k"]
theorem scFree : FnScope nFr ["_law_cell_here", "_law_kinds", "_law_marks"] (defScope sFree) := ⟨rfl, rfl, rfl, by decide +kernel, rfl, by decide +kernel, by decide +kernel⟩
abbrev limF : List Int := [4, 5, 4, 3, 5, 4, 3, 5, 4, 3, 5, 4, 3]
theorem limF_at : ∀ k, k < 4 → limF[3 * k + 1]? = some 5 ∧ limF[3 * k + 2]? = some 4 ∧ limF[3 * k + 3]? = some 3
  | 0, _ => ⟨rfl, rfl, rfl⟩
  | 1, _ => ⟨rfl, rfl, rfl⟩
  | 2, _ => ⟨rfl, rfl, rfl⟩
  | 3, _ => ⟨rfl, rfl, rfl⟩
  | k + 4, h => by omega
theorem sep_at {g : Int} (h0 : 0 ≤ g) (h1 : g < 3) : ∃ l : Nat, l ≤ 2 ∧ atI [V.str (Str.ofString " "), .str (Str.ofString " > "), .str (Str.ofString " + ")] g = some (sv l) := by
  obtain ⟨n, rfl⟩ : ∃ n : Nat, g = (n : Int) := ⟨g.toNat, by omega⟩
  match n, h1 with
  | 0, _ => exact ⟨0, by decide, rfl⟩
  | 1, _ => exact ⟨1, by decide, rfl⟩
  | 2, _ => exact ⟨2, by decide, rfl⟩
  | n + 3, h => omega
theorem ok_free {f f_row : Addr} {fd fd_row : FuncData} (B : Blt mg) (F : Fun K "_law_free" "_law_free" sFree f fd)
    (F_row : Fun K "_law_row" "_law_row" sRow f_row fd_row) (b_row : Binds K fd_row ["_law_cell_here", "_law_limits"] []) (g_row : mg "_law_row" = some (.ref f_row)) :
    FnOk P w K mg base CX0 2 f fd ["_law_cell_here", "_law_kinds", "_law_marks"] (spFree K) := by
  have G_row : FnOk P w K mg base CX0 1 f_row fd_row ["_law_cell_here", "_law_limits"] (spRow K) := ok_row B F_row
  refine F.ok scFree (fun vs H Q E h => ?_) (fun cdv A0 outer s H vs Q E hr h => ?_)
  · obtain ⟨c, ka, ma, ks, ms, rfl, _⟩ := h; rfl
  · obtain ⟨c, ka, ma, ks, ms, rfl, hka, hkl, hkn, hma, hml, hmn, q⟩ := h
    refine ⟨_, (pss_cons (ps_set (i := 3) scFree.nd rfl (.inr rfl) (pe_call G_row hr (by rfl) g_row F_row.kp b_row .nil pass0 (pa_cons (pv 0) (pa_cons (pe_lst (pa_cons pe_int (pa_cons pe_int (pa_cons pe_int (pa_cons pe_int (pa_cons pe_int (pa_cons pe_int (pa_cons pe_int (pa_cons pe_int (pa_cons pe_int (pa_cons pe_int (pa_cons pe_int (pa_cons pe_int (pa_cons pe_int pa_nil)))))))))))))) pa_nil))))
      (pss_cons (ps_setLc (i := 4) (own := [("_law_k", 5)]) (g := gName 5) (tt := tYes) rfl scFree.nd rfl rfl (sw_true rfl rfl rfl (by decide +kernel)) (pi_range1 (by rfl) B.range (pa_cons (pe_op op_add (pe_ix ix_list (pv 3) pe_int (fun _ _ => rfl)) pe_int) pa_nil)) (blkOk_by (N := nFr) (sc := defScope sFree) (by decide +kernel)) (fun _ _ _ _ _ => (pg_name (i := 5) scFree.nd rfl (.inl rfl))) (fun _ _ _ _ _ => pts_nil) (fun _ _ _ _ _ => (pe_tup (pa_cons (pe_ix (show IxR _ (rIxL K) from ix_list) (pv 1) (pe_ix (show IxR _ (rIxL K) from ix_list) (pv 3) (pe_op op_add (pe_op op_mul pe_int (pv 5)) pe_int) (fun _ _ => rfl)) (fun _ _ => rfl)) (pa_cons (pe_ix (show IxR _ (rIxL K) from ix_list) (pv 2) (pe_ix (show IxR _ (rIxL K) from ix_list) (pv 3) (pe_op op_add (pe_op op_mul pe_int (pv 5)) pe_int) (fun _ _ => rfl)) (fun _ _ => rfl)) pa_nil)))))
      (pss_one (ps_ret (pe_lst (pa_cons (pv 4) (pa_cons (pe_lc (own := [("_law_k", 5)]) (g := gName 5) (tt := tYes) rfl scFree.nd (pi_range1 (by rfl) B.range (pa_cons (pe_ix ix_list (pv 3) pe_int (fun _ _ => rfl)) pa_nil)) (blkOk_by (N := nFr) (sc := defScope sFree) (by decide +kernel)) (fun _ _ _ _ _ => (pg_name (i := 5) scFree.nd rfl (.inl rfl))) (fun _ _ _ _ _ => pts_nil) (fun _ _ _ _ _ => (pe_ix (show IxR _ (rIxL K) from ix_list) (pe_lst (pa_cons pe_str (pa_cons pe_str (pa_cons pe_str pa_nil)))) (pe_ix (show IxR _ (rIxL K) from ix_list) (pv 3) (pe_op op_add (pe_op op_mul pe_int (pv 5)) pe_int) (fun _ _ => rfl)) (fun _ _ => rfl)))) pa_nil))))))), ?_⟩
    have kget : ∀ (g : Int), 0 ≤ g → g < 5 → ∃ z, atI (ks.map V.str) g = some (.str z) ∧ (z = starS ∨ Name z) := fun g h0 h1 => by
      have hlt : g.toNat < ks.length := by omega
      refine ⟨ks[g.toNat]'hlt, at_of (j := g.toNat) (by omega) (sAt (List.getElem?_eq_getElem hlt)), hkn _ (List.getElem_mem hlt)⟩
    have mget : ∀ (g : Int), 0 ≤ g → g < 4 → ∃ z, atI (ms.map V.str) g = some (.str z) ∧ Mark z := fun g h0 h1 => by
      have hlt : g.toNat < ms.length := by omega
      refine ⟨ms[g.toNat]'hlt, at_of (j := g.toNat) (by omega) (sAt (List.getElem?_eq_getElem hlt)), hmn _ (List.getElem_mem hlt)⟩
    refine ⟨.int c, rfl, by show 13 ≤ sizeLine; decide, fun l0 n0 => ⟨c, l0, limF, rfl, SqL.of upd_same, by decide, by decide, fun H1 R rs s1 nR hR hrow => ?_⟩⟩
    have s01 := (same_new n0 (o := .lst (limF.map V.int))).trans s1
    obtain ⟨g0, a0, b0, d0⟩ := row_at hrow (i := 0) (l := 4) rfl
    obtain ⟨m0, rfl⟩ : ∃ k : Nat, g0 = (k : Int) := ⟨g0.toNat, by omega⟩
    have hm0 : m0 ≤ 3 := by omega
    refine ⟨.ref R, rfl, R, _, 0, .int (m0 : Int), rfl, rfl, SqL.of hR, atI_nat (j := 0) (i_at a0), (m0 : Int), 1, rfl, rfl, (m0 : Int) + 1, rfl, by omega, by omega, fun D hD => ?_⟩
    rw [show ((m0 : Int) + 1).toNat = m0 + 1 by omega]
    refine lc_range (lo := 0) (n := m0 + 1) (fun i H' => ∃ (us : List V) (xs : List Tst), H' D = some (.lst us) ∧ TstsAt H' us xs ∧ xs.length = i ∧ (∀ x ∈ xs, GoodT x) ∧ Same H1 H') ⟨[], [], upd_same, TstsAt.nil, rfl, fun x h => absurd h List.not_mem_nil, same_new hD⟩ ?_ ?_
    · rintro i H' hi ⟨us, xs, hus, hT, hxl, hgd, sm⟩
      obtain ⟨lk1, lk2, _⟩ := limF_at i (by omega)
      obtain ⟨r1, e1, p1, q1⟩ := row_at hrow lk1
      obtain ⟨r2, e2, p2, q2⟩ := row_at hrow lk2
      obtain ⟨z1, y1, w1⟩ := kget r1 p1 q1
      obtain ⟨z2, y2, w2⟩ := mget r2 p2 q2
      have sa := s01.trans sm
      refine ⟨rfl, .ref ka, rfl, .ref R, rfl, .int (0 + (i : Int)), rfl, 3, _, rfl, rfl, .inl ⟨by decide, by decide⟩, _, 1, rfl, rfl, R, _, _, .int r1, rfl, rfl, SqL.of (sm _ _ hR), at_of (j := 3 * i + 1) (by omega) (i_at e1), ka, _, r1, .str z1, rfl, rfl, SqL.of (sa _ _ hka), y1, ?_⟩
      refine ⟨.ref ma, rfl, .ref R, rfl, .int (0 + (i : Int)), rfl, 3, _, rfl, rfl, .inl ⟨by decide, by decide⟩, _, 2, rfl, rfl, R, _, _, .int r2, rfl, rfl, SqL.of (sm _ _ hR), at_of (j := 3 * i + 2) (by omega) (i_at e2), ma, _, r2, .str z2, rfl, rfl, SqL.of (sa _ _ hma), y2, ?_⟩
      refine ⟨by show 2 ≤ sizeLine; decide, fun t nt => ?_⟩
      have st := same_new nt (o := .tup [.str z1, .str z2])
      have ht : (upd H' t (.tup [.str z1, .str z2])) t = some (.tup [.str z1, .str z2]) := upd_same
      generalize upd H' t (.tup [.str z1, .str z2]) = H3 at st ht ⊢
      have hD3 := st _ _ hus
      have hsz : us.length < sizeLine := small1000 (by rw [hT.1]; omega)
      have tT : ∀ b ys, H3 b = some (.tup ys) → (upd H3 D (.lst (us ++ [.ref t]))) b = some (.tup ys) := SameT.lst hD3
      refine ⟨us, hD3, hsz, us ++ [.ref t], xs ++ [(z1, z2)], upd_same, ((hT.same st).tups tT).snoc ⟨t, rfl, tT _ _ ht⟩, by rw [List.length_append, hxl]; rfl, fun x hx => ?_, same_at (sm.trans st) hD⟩
      rcases List.mem_append.mp hx with h | h
      · exact hgd x h
      · rw [List.mem_singleton.mp h]; exact ⟨w1, w2⟩
    · rintro H2 ⟨us, xs, hus, hT, hxl, hgd, s12⟩
      have hul : us.length = m0 + 1 := by rw [hT.1, hxl]
      refine ⟨.ref D, rfl, .ref R, rfl, R, _, 0, .int (m0 : Int), rfl, rfl, SqL.of (s12 _ _ hR), atI_nat (j := 0) (i_at a0), (m0 : Int), rfl, by omega, by omega, fun D2 hD2 => ?_⟩
      rw [Int.toNat_natCast]
      refine lc_range (lo := 0) (n := m0) (fun i H' => ∃ (ls : List Nat), H' D2 = some (.lst (ls.map sv)) ∧ ls.length = i ∧ (∀ l ∈ ls, l ≤ 2) ∧ Same H2 H') ⟨[], upd_same, rfl, fun x h => absurd h List.not_mem_nil, same_new hD2⟩ ?_ ?_
      · rintro i H' hi ⟨ls, hls, hll, hgl, sm⟩
        obtain ⟨_, _, lk3⟩ := limF_at i (by omega)
        obtain ⟨r3, e3, p3, q3⟩ := row_at hrow lk3
        obtain ⟨l, hl2, hat⟩ := sep_at p3 q3
        refine ⟨rfl, by show 3 ≤ sizeLine; decide, fun l3 n3 => ?_⟩
        have s3 := same_new n3 (o := .lst [.str (Str.ofString " "), .str (Str.ofString " > "), .str (Str.ofString " + ")])
        have h3 : (upd H' l3 (.lst [.str (Str.ofString " "), .str (Str.ofString " > "), .str (Str.ofString " + ")])) l3 = some (.lst [.str (Str.ofString " "), .str (Str.ofString " > "), .str (Str.ofString " + ")]) := upd_same
        generalize upd H' l3 (.lst [.str (Str.ofString " "), .str (Str.ofString " > "), .str (Str.ofString " + ")]) = H3 at s3 h3 ⊢
        refine ⟨.ref R, rfl, .int (0 + (i : Int)), rfl, 3, _, rfl, rfl, .inl ⟨by decide, by decide⟩, _, 3, rfl, rfl, R, _, _, .int r3, rfl, rfl, SqL.of (s3 _ _ (sm _ _ (s12 _ _ hR))), at_of (j := 3 * i + 3) (by omega) (i_at e3), l3, _, r3, sv l, rfl, rfl, SqL.of h3, hat, ?_⟩
        refine ⟨_, s3 _ _ hls, small1000 (by rw [List.length_map]; omega), ls ++ [l], by rw [upd_same, List.map_append]; rfl, by rw [List.length_append, hll]; rfl, fun x hx => ?_, same_at (sm.trans s3) hD2⟩
        rcases List.mem_append.mp hx with h | h
        · exact hgl x h
        · rw [List.mem_singleton.mp h]; exact hl2
      · rintro H3 ⟨ls, hls, hll, hgl, s23⟩
        refine ⟨by show 2 ≤ sizeLine; decide, fun p np => ?_⟩
        have sp := same_new np (o := .lst [.ref D, .ref D2])
        have s3p := s23.trans sp
        have s02 := s01.trans s12
        have nDH : H D = none := s01.free hD
        obtain ⟨x, ys, rfl⟩ := hT.split (by omega)
        have hyl : ys.length = m0 := by simpa using hxl
        exact q _ p D D2 x (ls.zip ys) (s02.trans s3p) (s02.free (s23.free np)) nDH (s02.free hD2) upd_same (drawn_of (s3p _ _ hus) (hT.same s3p) (sp _ _ hls) (by omega) hgd hgl (by omega))
end
end K09

set_option maxRecDepth 100000
set_option maxHeartbeats 4000000
namespace K09
open PySem PySem.Spec PyProof.Rows L2
theorem sep_inj {l m : Nat} (hl : l ≤ 2) (hm : m ≤ 2) : decide (sv l = V.str (sepS m)) = decide (l = m) := by
  match l, hl, m, hm with
  | 0, _, 0, _ => decide +kernel
  | 0, _, 1, _ => decide +kernel
  | 0, _, 2, _ => decide +kernel
  | 1, _, 0, _ => decide +kernel
  | 1, _, 1, _ => decide +kernel
  | 1, _, 2, _ => decide +kernel
  | 2, _, 0, _ => decide +kernel
  | 2, _, 1, _ => decide +kernel
  | 2, _, 2, _ => decide +kernel
theorem Drawn.get {H : Hp} {a b : Addr} {x : Tst} {rs : List (Nat × Tst)} (h : Drawn H a b x rs) {j : Nat} (hj : j ≤ rs.length) : ∃ us u y, H a = some (.lst us) ∧ (x :: rs.map (·.2))[j]? = some y ∧ GoodT y ∧ us[j]? = some (.ref u) ∧ H u = some (.tup [.str y.1, .str y.2]) := by
  obtain ⟨⟨us, h1, h2⟩, h3, h4, h5, h6⟩ := h
  have hy : (x :: rs.map (·.2))[j]? = some ((x :: rs.map (·.2))[j]'(by simp; omega)) := List.getElem?_eq_getElem _
  generalize (x :: rs.map (·.2))[j]'(by simp; omega) = y at hy
  obtain ⟨v, u, hv, rfl, hu⟩ := h2.get hy
  refine ⟨us, u, y, h1, hy, ?_, hv, hu⟩
  have hm := List.mem_of_getElem? hy
  rcases List.mem_cons.mp hm with h | h
  · rw [h]; exact h4
  · obtain ⟨r, hr, rfl⟩ := List.mem_map.mp h
    exact (h5 r hr).2
theorem Drawn.link {H : Hp} {a b : Addr} {x : Tst} {rs : List (Nat × Tst)} (h : Drawn H a b x rs) {j : Nat} (hj : j < rs.length) : ∃ l, (rs.map (·.1))[j]? = some l ∧ l ≤ 2 ∧ ((rs.map (·.1)).map sv)[j]? = some (sv l) := by
  have hm : rs[j]? = some (rs[j]'hj) := List.getElem?_eq_getElem _
  refine ⟨(rs[j]'hj).1, by rw [List.getElem?_map, hm]; rfl, (h.gr _ (List.getElem_mem hj)).1, by rw [List.getElem?_map, List.getElem?_map, hm]; rfl⟩
/-- a tree's nodes as the law notes them -/
structure Noted (H : Hp) (D : Addr) (t : T) (kvs : List (List Key × V)) : Prop where
  dict : H D = some (.dT kvs)
  snd : Sound H t kvs
  all : ∀ ns, (∃ k m cs, atP t ns = some (.el k m cs)) → (valV kvs (kk ns)).isSome = true
theorem Noted.same {H H' : Hp} {D : Addr} {t : T} {kvs : List (List Key × V)} (h : Noted H D t kvs) (s : Same H H') : Noted H' D t kvs := ⟨s _ _ h.dict, h.snd.tups (Same.tups s), h.all⟩
theorem Noted.get {H : Hp} {D q : Addr} {t : T} {kvs : List (List Key × V)} (h : Noted H D t kvs) {ns : List Int} {k m : Str} {cs : List T} (he : atP t ns = some (.el k m cs)) (hq : H q = some (.tup (ns.map V.int))) : ∃ iv, DGet H D (.ref q) (some iv) ∧ InfoAt H iv k m (eldP t ns) cs.length := by
  have h1 := h.all ns ⟨k, m, cs, he⟩
  cases hv : valV kvs (kk ns) with
  | none => rw [hv] at h1; cases h1
  | some iv =>
    obtain ⟨ns', k', m', cs', e1, e2, e3⟩ := h.snd _ _ hv
    have e4 := kk_inj e1
    subst e4
    rw [he] at e2; cases e2
    refine ⟨iv, ?_, e3⟩
    have h2 := DGet.t (k := kk ns) h.dict (b := q) (by rw [kk_kV]; exact hq)
    rw [hv] at h2; exact h2
section
variable {P : Program} {w : World} {K : PySem.W.Frag} {mg : Str → Option Value} {base : Heap} {t1 t2 t3 t4 t5 t6 : Tok}
/-! ### _law_fits -/
def spFits (n : Nat) : Sp := fun vs H Q _ => ∃ (D a b q : Addr) (t : T) (kvs : List (List Key × V)) (x : Tst) (rs : List (Nat × Tst)) (ns : List Int) (j : Nat), vs = [.ref D, .ref a, .ref b, .ref q, .int (j : Int)] ∧ Noted H D t kvs ∧ Drawn H a b x rs ∧ sz t ≤ 200 ∧ H q = some (.tup (ns.map V.int)) ∧ (∃ k m cs, atP t ns = some (.el k m cs)) ∧
  j < n ∧ j ≤ rs.length ∧ ∀ H', Same H H' → Q (.bl (mt t (x :: rs.map (·.2)) (rs.map (·.1)) j ns)) H'
abbrev nFi : List Str := ["_law_nodes_here", "_law_tests", "_law_links", "_law_place", "_law_t", "_law_kind", "_law_mark", "_law_elder", "_law_many", "_law_k"]
theorem scFits : FnScope nFi ["_law_nodes_here", "_law_tests", "_law_links", "_law_place", "_law_t"] (defScope sFits) := ⟨rfl, rfl, rfl, by decide +kernel, rfl, by decide +kernel, by decide +kernel⟩
theorem ok_fits {f : Addr} {fd : FuncData} (B : Blt mg) (F_fits : Fun K "_law_fits" "_law_fits" sFits f fd) (b_fits : Binds K fd ["_law_nodes_here", "_law_tests", "_law_links", "_law_place", "_law_t"] []) (g_fits : mg "_law_fits" = some (.ref f)) : ∀ n,
    FnOk P w K mg base CX0 (n + 1) f fd ["_law_nodes_here", "_law_tests", "_law_links", "_law_place", "_law_t"] (spFits n)
  | 0 => F_fits.ok scFits (fun vs H Q E h => by obtain ⟨D, a, b, q, t, kvs, x, rs, ns, j, _, _, _, _, _, _, h, _⟩ := h; omega) (fun cdv A0 outer s H vs Q E hr h => by obtain ⟨D, a, b, q, t, kvs, x, rs, ns, j, _, _, _, _, _, _, h, _⟩ := h; omega)
  | n + 1 => by
    have G_fits := ok_fits B F_fits b_fits g_fits n
    refine F_fits.ok scFits (fun vs H Q E h => ?_) (fun cdv A0 outer s H vs Q E hr h => ?_)
    · obtain ⟨D, a, b, q, t, kvs, x, rs, ns, j, rfl, _⟩ := h; rfl
    · obtain ⟨D, a, b, q, t, kvs, x, rs, ns, j, rfl, hN, hD, hsz, hq, ⟨k, m, cs, hel⟩, hj, hjr, qq⟩ := h
      refine ⟨_, (pss_cons (ps_asg (pe_dget (hu_of hr) (pv 0) (pv 3) (fun _ _ => rfl)) (pg_tup rfl (pgs_cons (pg_name (i := 5) scFits.nd rfl (.inl rfl)) (pgs_cons (pg_name (i := 6) scFits.nd rfl (.inl rfl)) (pgs_cons (pg_name (i := 7) scFits.nd rfl (.inl rfl)) (pgs_cons (pg_name (i := 8) scFits.nd rfl (.inl rfl)) pgs_nil))))))
      (Evl.pss_cut (ps_if (PW.pt (pw_and (pt_cmpR op_ne (pe_ix ix_tup (pe_ix ix_list (pv 1) (pv 4) (fun _ _ => rfl)) pe_int (fun _ _ => rfl)) pe_str (nomark _)) (pw_and1 (pt_cmpR op_ne (pe_ix ix_tup (pe_ix ix_list (pv 1) (pv 4) (fun _ _ => rfl)) pe_int (fun _ _ => rfl)) (pv 5) (nomark _)))))
      (pss_one (ps_ret pe_bl))
      pss_nil)
      (Evl.pss_cut (ps_if (PW.pt (pw_and (pt_cmpR op_ne (pe_ix ix_tup (pe_ix ix_list (pv 1) (pv 4) (fun _ _ => rfl)) pe_int (fun _ _ => rfl)) pe_str (nomark _)) (pw_and1 (pt_cmpR op_ne (pe_ix ix_tup (pe_ix ix_list (pv 1) (pv 4) (fun _ _ => rfl)) pe_int (fun _ _ => rfl)) (pv 6) (nomark _)))))
      (pss_one (ps_ret pe_bl))
      pss_nil)
      (pss_cons (ps_if (pt_cmpR op_eq (pv 4) pe_int (nomark _))
      (pss_one (ps_ret pe_bl))
      pss_nil)
      (pss_cons (ps_if (pt_cmpR op_eq (pe_ix ix_list (pv 2) (pe_op op_sub (pv 4) pe_int) (fun _ _ => rfl)) pe_str (nomark _))
      (pss_one (ps_ret (pe_and (pe_cmpR op_notN (pv 7) pe_non (nomark _)) (pe_one (pe_call G_fits hr (by rfl) g_fits F_fits.kp b_fits .nil pass0 (pa_cons (pv 0) (pa_cons (pv 1) (pa_cons (pv 2) (pa_cons (pv 7) (pa_cons (pe_op op_sub (pv 4) pe_int) pa_nil))))))))))
      pss_nil)
      (pss_cons (ps_if (pt_cmpR op_eq (pe_ix ix_list (pv 2) (pe_op op_sub (pv 4) pe_int) (fun _ _ => rfl)) pe_str (nomark _))
      (pss_one (ps_ret (pe_and (pe_cmpR (op_neD hr.units) (pv 3) (pe_tup pa_nil) (nomark _)) (pe_one (pe_call G_fits hr (by rfl) g_fits F_fits.kp b_fits .nil pass0 (pa_cons (pv 0) (pa_cons (pv 1) (pa_cons (pv 2) (pa_cons (pe_slice sl_tupA (pv 3) po_none (po_some (pe_un un_neg pe_int))) (pa_cons (pe_op op_sub (pv 4) pe_int) pa_nil))))))))))
      pss_nil)
      (pss_cons (ps_for (PassesOwn.never) rfl (pi_range1 (by rfl) B.range (pa_cons (pe_callB call_len (by rfl) B.len PySem.boot_len (pa_cons (pv 3) pa_nil)) pa_nil)) (pg_name (i := 9) scFits.nd rfl (.inl rfl))
      (pss_one (ps_if (pt_val (pe_call G_fits hr (by rfl) g_fits F_fits.kp b_fits .nil pass0 (pa_cons (pv 0) (pa_cons (pv 1) (pa_cons (pv 2) (pa_cons (pe_slice sl_tupA (pv 3) po_none (po_some (pv 9))) (pa_cons (pe_op op_sub (pv 4) pe_int) pa_nil)))))))
       (pss_one (ps_ret pe_bl))
       pss_nil)))
      (pss_one (ps_ret pe_bl))))))))), ?_⟩
      have hns : ns.length ≤ 200 := by have := atP_sz hel; omega
      obtain ⟨iv, hg, ib, ev, rfl, hib, hev⟩ := hN.get hel hq
      obtain ⟨us, u, y, hus, hy, gy, huj, hu⟩ := hD.get hjr
      have hhit : hitB t ns y = passB y k m := by unfold hitB; rw [hel]
      have hF : passB y k m = false → mt t (x :: rs.map (·.2)) (rs.map (·.1)) j ns = false := fun hp => by
        cases j with
        | zero => simp only [mt, hy]; rw [hhit]; exact hp
        | succ j => simp only [mt, hy]; rw [hhit, hp, Bool.false_and]
      have qF : passB y k m = false → Q (.bl false) H := fun hp => by
        have := qq H (Same.refl _)
        rw [hF hp] at this; exact this
      refine ⟨.ref D, rfl, .ref q, rfl, D, .ref ib, rfl, hg, ib, _, rfl, SqT.of hib, rfl, .str k, _, rfl, .str m, _, rfl, ev, _, rfl, .int (cs.length : Int), _, rfl, rfl, ?_⟩
      refine ⟨fun σ H' => σ = [some (.ref D), some (.ref a), some (.ref b), some (.ref q), some (.int (j : Int)), some (.str k), some (.str m), some ev, some (.int (cs.length : Int)), none] ∧ H' = H ∧ (decide (y.1 = starS) || decide (y.1 = k)) = true, ?_, ?_⟩
      · refine ⟨.ref a, rfl, .int (j : Int), rfl, a, us, (j : Int), .ref u, rfl, rfl, SqL.of hus, atI_nat huj, u, _, 0, .str y.1, rfl, rfl, SqT.of hu, atI_nat (j := 0) rfl, rfl, _, rfl, ?_⟩
        rw [show decide (V.str y.1 = V.str (Str.ofString "*")) = decide (y.1 = starS) from decide_eq_decide.mpr ⟨fun e => by injection e, fun e => by rw [e]; rfl⟩]
        by_cases hs : y.1 = starS
        · rw [decide_eq_true hs]
          exact iteF (iteF ⟨rfl, rfl, rfl⟩)
        · rw [decide_eq_false hs]
          refine iteT ⟨.ref a, rfl, .int (j : Int), rfl, a, us, (j : Int), .ref u, rfl, rfl, SqL.of hus, atI_nat huj, u, _, 0, .str y.1, rfl, rfl, SqT.of hu, atI_nat (j := 0) rfl, .str k, rfl, rfl, _, rfl, ?_⟩
          rw [show decide (V.str y.1 = V.str k) = decide (y.1 = k) from decide_eq_decide.mpr ⟨fun e => by injection e, fun e => by rw [e]⟩]
          by_cases hk : y.1 = k
          · rw [decide_eq_true hk]
            exact iteF ⟨rfl, rfl, rfl⟩
          · rw [decide_eq_false hk]
            refine iteT (qF ?_)
            unfold passB; rw [decide_eq_false hs, decide_eq_false hk]; rfl
      rintro σ H' ⟨rfl, rfl, hp1⟩
      refine ⟨fun σ H2 => σ = [some (.ref D), some (.ref a), some (.ref b), some (.ref q), some (.int (j : Int)), some (.str k), some (.str m), some ev, some (.int (cs.length : Int)), none] ∧ H2 = H' ∧ passB y k m = true, ?_, ?_⟩
      · refine ⟨.ref a, rfl, .int (j : Int), rfl, a, us, (j : Int), .ref u, rfl, rfl, SqL.of hus, atI_nat huj, u, _, 1, .str y.2, rfl, rfl, SqT.of hu, atI_nat (j := 1) rfl, rfl, _, rfl, ?_⟩
        rw [eqE]
        by_cases hs : tl y.2 = []
        · rw [decide_eq_true hs]
          exact iteF (iteF ⟨rfl, rfl, by unfold passB; rw [hp1, decide_eq_true hs]; rfl⟩)
        · rw [decide_eq_false hs]
          refine iteT ⟨.ref a, rfl, .int (j : Int), rfl, a, us, (j : Int), .ref u, rfl, rfl, SqL.of hus, atI_nat huj, u, _, 1, .str y.2, rfl, rfl, SqT.of hu, atI_nat (j := 1) rfl, .str m, rfl, rfl, _, rfl, ?_⟩
          rw [show decide (V.str y.2 = V.str m) = decide (y.2 = m) from decide_eq_decide.mpr ⟨fun e => by injection e, fun e => by rw [e]⟩]
          by_cases hk : y.2 = m
          · rw [decide_eq_true hk]
            exact iteF ⟨rfl, rfl, by unfold passB; rw [hp1, decide_eq_true hk, Bool.or_true]; rfl⟩
          · rw [decide_eq_false hk]
            refine iteT (qF ?_)
            unfold passB; rw [decide_eq_false hs, decide_eq_false hk, Bool.or_false, Bool.and_false]
      rintro σ H2 ⟨rfl, rfl, hpb⟩
      refine ⟨.int (j : Int), rfl, rfl, _, rfl, ?_⟩
      rw [eqI]
      cases j with
      | zero =>
        rw [decide_eq_true (show ((0 : Nat) : Int) = 0 by rfl)]
        refine iteT ?_
        have := qq _ (Same.refl _)
        have e : mt t (x :: rs.map (·.2)) (rs.map (·.1)) 0 ns = true := by simp only [mt, hy]; rw [hhit]; exact hpb
        rw [e] at this; exact this
      | succ j =>
        rw [decide_eq_false (by omega)]
        obtain ⟨l, hlj, hl2, hsl⟩ := hD.link (j := j) (by omega)
        have em : mt t (x :: rs.map (·.2)) (rs.map (·.1)) (j + 1) ns = (linked t ns l).any (mt t (x :: rs.map (·.2)) (rs.map (·.1)) j) := by
          simp only [mt, hy, hlj]; rw [hhit, hpb, Bool.true_and]
        have hat : atI ((rs.map (·.1)).map sv) (((j + 1 : Nat) : Int) - 1) = some (sv l) := at_of (j := j) (by omega) hsl
        have hls := hD.links
        refine iteF ⟨.ref b, rfl, .int ((j + 1 : Nat) : Int), rfl, _, 1, rfl, rfl, b, _, _, sv l, rfl, rfl, SqL.of hls, hat, rfl, _, rfl, ?_⟩
        rw [show V.str (Str.ofString " + ") = V.str (sepS 2) from rfl, sep_inj hl2 (by decide)]
        by_cases h2 : l = 2
        · subst h2
          rw [decide_eq_true rfl]
          have elk0 : eldP t ns = none → linked t ns 2 = [] := fun e => by unfold linked; rw [if_pos rfl, e]
          have elk1 : ∀ ms, eldP t ns = some ms → linked t ns 2 = [ms] := fun ms e => by unfold linked; rw [if_pos rfl, e]
          refine iteT ⟨ev, rfl, rfl, ?_⟩
          cases he : eldP t ns with
          | none =>
            rw [he] at hev
            have hev : ev = .non := hev
            subst hev
            refine ⟨_, rfl, iteF ?_⟩
            have := qq _ (Same.refl _)
            rw [em, elk0 he] at this; exact this
          | some ms =>
            rw [he] at hev
            obtain ⟨c, rfl, hc⟩ := hev
            have hme := linked_el hel 2 ms (by rw [elk1 ms he]; exact List.mem_singleton.mpr rfl)
            refine ⟨_, rfl, iteT ⟨.ref D, rfl, .ref a, rfl, .ref b, rfl, .ref c, rfl, .int ((j + 1 : Nat) : Int), rfl, _, 1, rfl, rfl, D, a, b, c, t, kvs, x, rs, ms, j, by show [V.ref D, V.ref a, V.ref b, V.ref c, V.int (((j + 1 : Nat) : Int) - 1)] = _; rw [show ((j + 1 : Nat) : Int) - 1 = (j : Int) by omega], hN, hD, hsz, hc, hme, by omega, by omega, fun H3 s3 => ?_⟩⟩
            have := qq _ s3
            rw [em, elk1 ms he] at this
            simp only [List.any_cons, List.any_nil, Bool.or_false] at this
            exact this
        · rw [decide_eq_false h2]
          refine iteF ⟨.ref b, rfl, .int ((j + 1 : Nat) : Int), rfl, _, 1, rfl, rfl, b, _, _, sv l, rfl, rfl, SqL.of hls, hat, rfl, _, rfl, ?_⟩
          rw [show V.str (Str.ofString " > ") = V.str (sepS 1) from rfl, sep_inj hl2 (by decide)]
          by_cases h1 : l = 1
          · subst h1
            rw [decide_eq_true rfl]
            refine iteT ⟨.ref q, rfl, Nat.zero_le _, fun o no => ?_⟩
            have s1 : Same H2 (upd H2 o (.tup [])) := same_new no
            refine ⟨.tuple (ns.map PyData.int), .tuple [], .tup (SqT.of (s1 _ _ hq)) (dp_ints ns), .tup (SqT.of upd_same) .nil, shaped_ints ns, shaped_ints [], ?_⟩
            rw [eqv_unit]
            generalize upd H2 o (.tup []) = H3 at s1 ⊢
            by_cases hn : ns = []
            · rw [decide_eq_true hn]
              refine ⟨_, rfl, iteF ?_⟩
              have := qq _ s1
              rw [em] at this
              have e : linked t ns 1 = [] := by unfold linked; rw [if_neg (by decide), if_pos hn]
              rw [e] at this; exact this
            · rw [decide_eq_false hn]
              have e : linked t ns 1 = [ns.dropLast] := by unfold linked; rw [if_neg (by decide), if_neg hn, if_pos rfl]
              have hme := linked_el hel 1 ns.dropLast (by rw [e]; exact List.mem_singleton.mpr rfl)
              obtain ⟨ms, z, rfl⟩ := snoc_of hn
              rw [List.dropLast_concat] at e hme
              refine ⟨_, rfl, iteT ⟨.ref D, rfl, .ref a, rfl, .ref b, rfl, .ref q, rfl, 1, rfl, -1, rfl, q, _, rfl, SqT.of (s1 _ _ hq), fun hw => absurd hw (cut_whole ms _), fun _ c nc => ?_⟩⟩
              rw [cut_last]
              have sc := s1.trans (same_new nc (o := .tup (ms.map V.int)))
              refine ⟨.int ((j + 1 : Nat) : Int), rfl, _, 1, rfl, rfl, D, a, b, c, t, kvs, x, rs, ms, j, by show [V.ref D, V.ref a, V.ref b, V.ref c, V.int (((j + 1 : Nat) : Int) - 1)] = _; rw [show ((j + 1 : Nat) : Int) - 1 = (j : Int) by omega], hN.same sc, hD.same sc, hsz, upd_same, hme, by omega, by omega, fun H4 s4 => ?_⟩
              have := qq _ (sc.trans s4)
              rw [em, e] at this
              simp only [List.any_cons, List.any_nil, Bool.or_false] at this
              exact this
          · rw [decide_eq_false h1]
            have e : linked t ns l = (List.range ns.length).map fun n => ns.take n := by
              unfold linked; rw [if_neg h2]
              by_cases hn : ns = []
              · rw [if_pos hn, hn]; rfl
              · rw [if_neg hn, if_neg h1]
            refine iteF ⟨.ref q, rfl, .ref q, (ns.map V.int).length, rfl, .inr ⟨_, SqT.of hq, rfl⟩, (((ns.map V.int).length : Nat) : Int), rfl, by omega, by rw [List.length_map]; omega, ?_⟩
            rw [Int.toNat_natCast, List.length_map]
            refine for_range (lo := 0) (n := ns.length) (fun i σ H' => ∃ y9 : Option V, σ = [some (.ref D), some (.ref a), some (.ref b), some (.ref q), some (.int ((j + 1 : Nat) : Int)), some (.str k), some (.str m), some ev, some (.int (cs.length : Int)), y9] ∧ Same H2 H' ∧ (((List.range i).map fun n => ns.take n).any (mt t (x :: rs.map (·.2)) (rs.map (·.1)) j)) = false)
              ⟨none, rfl, Same.refl _, rfl⟩ ?_ ?_
            · rintro i σ H' hi ⟨y9, rfl, sm, hno⟩
              have e0 : (0 : Int) + (i : Int) = (i : Int) := by omega
              rw [e0]
              obtain ⟨c1, c2⟩ := cut_takeI ns hi
              have hme := linked_el hel l (ns.take i) (by rw [e]; exact List.mem_map.mpr ⟨i, List.mem_range.mpr hi, rfl⟩)
              refine ⟨.ref D, rfl, .ref a, rfl, .ref b, rfl, .ref q, rfl, .int (i : Int), rfl, (i : Int), rfl, q, _, rfl, SqT.of (sm _ _ hq), fun hw => absurd hw c2, fun _ c nc => ?_⟩
              rw [c1]
              have sc := sm.trans (same_new nc (o := .tup ((ns.take i).map V.int)))
              refine ⟨.int ((j + 1 : Nat) : Int), rfl, _, 1, rfl, rfl, D, a, b, c, t, kvs, x, rs, ns.take i, j, by show [V.ref D, V.ref a, V.ref b, V.ref c, V.int (((j + 1 : Nat) : Int) - 1)] = _; rw [show ((j + 1 : Nat) : Int) - 1 = (j : Int) by omega], hN.same sc, hD.same sc, hsz, upd_same, hme, by omega, by omega, fun H4 s4 => ⟨_, rfl, ?_⟩⟩
              cases hm : mt t (x :: rs.map (·.2)) (rs.map (·.1)) j (ns.take i) with
              | true =>
                refine iteT ?_
                have := qq _ (sc.trans s4)
                rw [em, e] at this
                have e3 : (((List.range ns.length).map fun n => ns.take n).any (mt t (x :: rs.map (·.2)) (rs.map (·.1)) j)) = true := List.any_eq_true.mpr ⟨ns.take i, List.mem_map.mpr ⟨i, List.mem_range.mpr hi, rfl⟩, hm⟩
                rw [e3] at this; exact this
              | false =>
                refine iteF ⟨_, rfl, sc.trans s4, ?_⟩
                rw [List.range_succ, List.map_append, List.any_append, hno]
                show (false || (mt t (x :: rs.map (·.2)) (rs.map (·.1)) j (ns.take i) || false)) = false
                rw [hm]; rfl
            · rintro σ H' ⟨y9, rfl, sm, hno⟩
              have := qq _ sm
              rw [em, e, hno] at this; exact this
end
end K09

set_option maxRecDepth 100000
set_option maxHeartbeats 4000000
namespace K09
open PySem PySem.Spec PyProof.Rows L2
theorem and_share {c : Bool} {U E T : Prop} (e : E) (u : c = true → E → U) : if c = true then U else (if (false : Bool) = true then T else E) := by
  cases c with
  | true => exact u rfl e
  | false => exact e
theorem cut_drop (xs : List V) {n : Nat} (h : n ≤ xs.length) : cutV xs (some (n : Int)) none = xs.drop n := by
  unfold cutV
  rw [HT.sIx_nat, HT.sIx_none, Nat.min_eq_left h, List.take_of_length_le (by rw [List.length_drop]; exact Nat.le_refl _)]
theorem valV_mem {kvs : List (List Key × V)} {p : List Key × V} (h : p ∈ kvs) : ∃ v, valV kvs p.1 = some v := by
  cases e : valV kvs p.1 with
  | none => exact absurd (List.mem_map.mpr ⟨p, h, rfl⟩) (valV_not e)
  | some v => exact ⟨v, rfl⟩
/-- the places of a dict in order -/
theorem keys_places {H H2 : Hp} {D : Addr} {t : T} {kvs : List (List Key × V)} {bs : List Addr} (h : Noted H2 D t kvs) (hk : IsKeys H kvs bs) : ∃ ps, PlacesAt H (bs.map V.ref) ps ∧ (∀ q ∈ ps, ∃ k m cs, atP t q = some (.el k m cs)) ∧ (∀ q, (∃ k m cs, atP t q = some (.el k m cs)) → q ∈ ps) ∧ ps.length = kvs.length := by
  have key : ∀ (as : List (List Key × V)) (cs : List Addr), IsKeys H as cs → (∀ p ∈ as, p ∈ kvs) → ∃ ps, PlacesAt H (cs.map V.ref) ps ∧ (∀ q ∈ ps, ∃ k m cs, atP t q = some (.el k m cs)) ∧ ps.map kk = as.map (·.1) := by
    intro as cs hkk hm
    unfold IsKeys at hkk
    induction hkk with
    | nil => exact ⟨[], PlacesAt.nil, fun q hq => absurd hq List.not_mem_nil, rfl⟩
    | @cons p b as cs hb hr ih =>
      obtain ⟨ps, h1, h2, h3⟩ := ih fun q hq => hm q (List.mem_cons_of_mem _ hq)
      obtain ⟨v, hv⟩ := valV_mem (hm p List.mem_cons_self)
      obtain ⟨ns, k, m, ds, e1, e2, _⟩ := h.snd _ _ hv
      refine ⟨ns :: ps, ⟨by simpa using h1.1, fun i w q hw hq => ?_⟩, fun q hq => ?_, ?_⟩
      · cases i with
        | zero =>
          simp at hw hq; subst hw hq
          exact ⟨b, rfl, by rw [e1, kk_kV] at hb; exact hb⟩
        | succ i => exact h1.2 i w q (by simpa using hw) (by simpa using hq)
      · rcases List.mem_cons.mp hq with rfl | hq
        · exact ⟨k, m, ds, e2⟩
        · exact h2 q hq
      · rw [List.map_cons, List.map_cons, h3, e1]
  obtain ⟨ps, h1, h2, h3⟩ := key kvs bs hk fun p hp => hp
  refine ⟨ps, h1, h2, fun q hq => ?_, by have := congrArg List.length h3; simpa using this⟩
  have h4 := h.all q hq
  cases hv : valV kvs (kk q) with
  | none => rw [hv] at h4; cases h4
  | some v =>
    have h5 := valV_in hv
    rw [← h3] at h5
    obtain ⟨q', hq', e⟩ := List.mem_map.mp h5
    rw [← kk_inj e]; exact hq'
section
variable {P : Program} {w : World} {K : PySem.W.Frag} {mg : Str → Option Value} {base : Heap} {t1 t2 t3 t4 t5 t6 : Tok}
/-! ### _law_aimed -/
def spAimed : Sp := fun vs H Q _ => ∃ (c : Int) (D : Addr) (t : T) (kvs : List (List Key × V)), vs = [.int c, .ref D] ∧ Noted H D t kvs ∧ kvs.length ≤ 200 ∧ sz t ≤ 200 ∧ good t ∧ (∃ k m cs, t = .el k m cs) ∧
  ∀ H' p a b x rs, Same H H' → H p = none → H a = none → H b = none → H' p = some (.lst [.ref a, .ref b]) → Drawn H' a b x rs → Q (.ref p) H'
abbrev nAi : List Str := ["_law_cell_here", "_law_nodes_here", "_law_row_here", "_law_places", "_law_place", "_law_tests", "_law_links", "_law_k", "_law_kind", "_law_mark", "_law_elder", "_law_many"]
theorem scAimed : FnScope nAi ["_law_cell_here", "_law_nodes_here"] (defScope sAimed) := ⟨rfl, rfl, rfl, by decide +kernel, rfl, by decide +kernel, by decide +kernel⟩
abbrev limA : List Int := [60, 4, 3, 12, 3, 2, 3, 12, 3, 2, 3, 12, 3, 2, 3, 12, 3, 2]
theorem limA_at : ∀ k, k < 4 → limA[4 * k + 2]? = some 3 ∧ limA[4 * k + 3]? = some 12 ∧ limA[4 * k + 4]? = some 3 ∧ limA[4 * k + 5]? = some 2
  | 0, _ => ⟨rfl, rfl, rfl, rfl⟩
  | 1, _ => ⟨rfl, rfl, rfl, rfl⟩
  | 2, _ => ⟨rfl, rfl, rfl, rfl⟩
  | 3, _ => ⟨rfl, rfl, rfl, rfl⟩
  | k + 4, h => by omega
set_option maxHeartbeats 8000000 in
theorem ok_aimed {f f_row : Addr} {fd fd_row : FuncData} (B : Blt mg) (F : Fun K "_law_aimed" "_law_aimed" sAimed f fd)
    (F_row : Fun K "_law_row" "_law_row" sRow f_row fd_row) (b_row : Binds K fd_row ["_law_cell_here", "_law_limits"] []) (g_row : mg "_law_row" = some (.ref f_row)) :
    FnOk P w K mg base CX0 2 f fd ["_law_cell_here", "_law_nodes_here"] spAimed := by
  have G_row : FnOk P w K mg base CX0 1 f_row fd_row ["_law_cell_here", "_law_limits"] (spRow K) := ok_row B F_row
  refine F.ok scAimed (fun vs H Q E h => ?_) (fun cdv A0 outer s H vs Q E hr h => ?_)
  · obtain ⟨c, D, t, kvs, rfl, _⟩ := h; rfl
  · obtain ⟨c, D, t, kvs, rfl, hN, hkl, hsz, hgd, hroot, q⟩ := h
    refine ⟨_, (pss_cons (ps_set (i := 2) scAimed.nd rfl (.inl rfl) (pe_call G_row hr (by rfl) g_row F_row.kp b_row .nil pass0 (pa_cons (pv 0) (pa_cons (pe_lst (pa_cons pe_int (pa_cons pe_int (pa_cons pe_int (pa_cons pe_int (pa_cons pe_int (pa_cons pe_int (pa_cons pe_int (pa_cons pe_int (pa_cons pe_int (pa_cons pe_int (pa_cons pe_int (pa_cons pe_int (pa_cons pe_int (pa_cons pe_int (pa_cons pe_int (pa_cons pe_int (pa_cons pe_int (pa_cons pe_int pa_nil))))))))))))))))))) pa_nil))))
      (pss_cons (ps_set (i := 3) scAimed.nd rfl (.inl rfl) (pe_callTy (call_list_dT rfl) (by rfl) B.list (by decide +kernel) (pa_cons (pv 1) pa_nil)))
      (pss_cons (ps_set (i := 4) scAimed.nd rfl (.inl rfl) (pe_ix ix_list (pv 3) (pe_op op_modN (pe_callTy call_int1 (by rfl) B.int (by decide +kernel) (pa_cons (pe_ix ix_list (pv 2) pe_int (fun _ _ => rfl)) pa_nil)) (pe_callB call_len (by rfl) B.len PySem.boot_len (pa_cons (pv 3) pa_nil))) (fun _ _ => rfl)))
      (pss_cons (ps_set (i := 5) scAimed.nd rfl (.inl rfl) (pe_lst pa_nil))
      (pss_cons (ps_set (i := 6) scAimed.nd rfl (.inl rfl) (pe_lst pa_nil))
      (Evl.pss_cut (ps_for (PassesOwn.never) rfl (pi_range1 (by rfl) B.range (pa_cons (pe_op op_add (pe_ix ix_list (pv 2) pe_int (fun _ _ => rfl)) pe_int) pa_nil)) (pg_name (i := 7) scAimed.nd rfl (.inl rfl))
      (pss_cons (ps_asg (pe_dget (hu_of hr) (pv 1) (pv 4) (fun _ _ => rfl)) (pg_tup rfl (pgs_cons (pg_name (i := 8) scAimed.nd rfl (.inl rfl)) (pgs_cons (pg_name (i := 9) scAimed.nd rfl (.inl rfl)) (pgs_cons (pg_name (i := 10) scAimed.nd rfl (.inl rfl)) (pgs_cons (pg_name (i := 11) scAimed.nd rfl (.inl rfl)) pgs_nil))))))
       (Evl.pss_cut (ps_if (pt_cmpR op_eq (pe_ix ix_list (pv 2) (pe_op op_add (pe_op op_mul pe_int (pv 7)) pe_int) (fun _ _ => rfl)) pe_int (nomark _))
       (pss_one (ps_set (i := 8) scAimed.nd rfl (.inl rfl) pe_str))
       pss_nil)
       (Evl.pss_cut (ps_if (pt_cmpR op_eq (pe_ix ix_list (pv 2) (pe_op op_add (pe_op op_mul pe_int (pv 7)) pe_int) (fun _ _ => rfl)) pe_int (nomark _))
       (pss_one (ps_set (i := 9) scAimed.nd rfl (.inl rfl) pe_str))
       pss_nil)
       (pss_cons (ps_set (i := 5) scAimed.nd rfl (.inl rfl) (pe_op op_cat (pe_lst (pa_cons (pe_tup (pa_cons (pv 8) (pa_cons (pv 9) pa_nil))) pa_nil)) (pv 5)))
       (pss_one (ps_if (PW.pt (pw_and (pt_cmpR op_eq (pe_ix ix_list (pv 2) (pe_op op_add (pe_op op_mul pe_int (pv 7)) pe_int) (fun _ _ => rfl)) pe_int (nomark _)) (pw_and1 (pt_cmpR op_notN (pv 10) pe_non (nomark _)))))
       (pss_cons (ps_set (i := 6) scAimed.nd rfl (.inl rfl) (pe_op op_cat (pe_lst (pa_cons pe_str pa_nil)) (pv 6)))
        (pss_one (ps_set (i := 4) scAimed.nd rfl (.inl rfl) (pv 10))))
       (pss_one (ps_if (pt_cmpR (op_eqD hr.units) (pv 4) (pe_tup pa_nil) (nomark _))
        (pss_one ps_break)
        (pss_one (ps_if (pt_cmpR op_eq (pe_ix ix_list (pv 2) (pe_op op_add (pe_op op_mul pe_int (pv 7)) pe_int) (fun _ _ => rfl)) pe_int (nomark _))
         (pss_cons (ps_set (i := 6) scAimed.nd rfl (.inl rfl) (pe_op op_cat (pe_lst (pa_cons pe_str pa_nil)) (pv 6)))
          (pss_one (ps_set (i := 4) scAimed.nd rfl (.inl rfl) (pe_slice sl_tupA (pv 4) po_none (po_some (pe_un un_neg pe_int))))))
         (pss_cons (ps_set (i := 6) scAimed.nd rfl (.inl rfl) (pe_op op_cat (pe_lst (pa_cons pe_str pa_nil)) (pv 6)))
          (pss_one (ps_set (i := 4) scAimed.nd rfl (.inl rfl) (pe_slice sl_tupA (pv 4) po_none (po_some (pe_op op_modN (pe_callTy call_int1 (by rfl) B.int (by decide +kernel) (pa_cons (pe_ix ix_list (pv 2) (pe_op op_add (pe_op op_mul pe_int (pv 7)) pe_int) (fun _ _ => rfl)) pa_nil)) (pe_callB call_len (by rfl) B.len PySem.boot_len (pa_cons (pv 4) pa_nil)))))))))))))))))))
      (pss_one (ps_ret (pe_lst (pa_cons (pv 5) (pa_cons (pe_slice sl_list (pv 6) (po_some (pe_op op_add (pe_op op_sub (pe_callB call_len (by rfl) B.len PySem.boot_len (pa_cons (pv 6) pa_nil)) (pe_callB call_len (by rfl) B.len PySem.boot_len (pa_cons (pv 5) pa_nil))) pe_int)) po_none) pa_nil))))))))))), ?_⟩
    refine ⟨.int c, rfl, by show 18 ≤ sizeLine; decide, fun l0 n0 => ⟨c, l0, limA, rfl, SqL.of upd_same, by decide, by decide, fun H1 R rs s1 nR hR hrow => ?_⟩⟩
    have s01 := (same_new n0 (o := .lst (limA.map V.int))).trans s1
    refine ⟨.ref D, rfl, D, kvs, rfl, Rd.of (s01 _ _ hN.dict), fun L bs nL hkeys => ?_⟩
    obtain ⟨ps, hps, hpe, hpa, hpl⟩ := keys_places hN hkeys
    have sL := same_new nL (o := .lst (bs.map V.ref))
    have s02 := s01.trans sL
    have hL : (upd H1 L (.lst (bs.map V.ref))) L = some (.lst (bs.map V.ref)) := upd_same
    have hps2 := hps.same sL
    have hR2 := sL _ _ hR
    generalize upd H1 L (.lst (bs.map V.ref)) = H2 at sL s02 hL hps2 hR2 ⊢
    have hbl : (bs.map V.ref).length = ps.length := hps.1
    have hpp : 0 < ps.length := by
      obtain ⟨k, m, cs, rfl⟩ := hroot
      exact List.length_pos_of_mem (hpa [] ⟨k, m, cs, rfl⟩)
    obtain ⟨g0, a0, b0, d0⟩ := row_at hrow (i := 0) (l := 60) rfl
    obtain ⟨g1, a1, b1, d1⟩ := row_at hrow (i := 1) (l := 4) rfl
    obtain ⟨m1, rfl⟩ : ∃ k : Nat, g1 = (k : Int) := ⟨g1.toNat, by omega⟩
    have hf0 : 0 ≤ g0.fmod (((bs.map V.ref).length : Nat) : Int) ∧ g0.fmod (((bs.map V.ref).length : Nat) : Int) < (((bs.map V.ref).length : Nat) : Int) := ⟨Int.fmod_nonneg_of_pos _ (by omega), Int.fmod_lt_of_pos _ (by omega)⟩
    obtain ⟨i0, hi0⟩ : ∃ n : Nat, g0.fmod (((bs.map V.ref).length : Nat) : Int) = (n : Int) := ⟨(g0.fmod (((bs.map V.ref).length : Nat) : Int)).toNat, by omega⟩
    have hlt0 : i0 < (bs.map V.ref).length := by omega
    obtain ⟨ns0, q0, hn0, hv0, hq0⟩ := hps2.get (List.getElem?_eq_getElem hlt0)
    have hat0 : (bs.map V.ref)[i0]? = some (.ref q0) := by rw [List.getElem?_eq_getElem hlt0, hv0]
    refine ⟨.ref L, rfl, .ref R, rfl, R, _, 0, .int g0, rfl, rfl, SqL.of hR2, atI_nat (j := 0) (i_at a0), .inl ⟨g0, rfl, .ref L, rfl, .ref L, (bs.map V.ref).length, rfl, .inl ⟨_, SqL.of hL, rfl⟩, g0, _, rfl, rfl, by omega, L, _, _, .ref q0, rfl, rfl, SqL.of hL, by rw [hi0]; exact atI_nat hat0, ?_⟩⟩
    refine ⟨Nat.zero_le _, fun ta nta => ?_⟩
    have sa := same_new nta (o := .lst [])
    refine ⟨Nat.zero_le _, fun tb ntb => ?_⟩
    have sb := same_new ntb (o := .lst [])
    have hta : (upd (upd H2 ta (.lst [])) tb (.lst [])) ta = some (.lst []) := sb _ _ upd_same
    have htb : (upd (upd H2 ta (.lst [])) tb (.lst [])) tb = some (.lst (([] : List Nat).map sv)) := upd_same
    have nta0 : H ta = none := s02.free nta
    have ntb0 : H tb = none := (s02.trans sa).free ntb
    have s04 := s02.trans (sa.trans sb)
    have hR4 := sb _ _ (sa _ _ hR2)
    have hq4 := sb _ _ (sa _ _ hq0)
    generalize upd (upd H2 ta (.lst [])) tb (.lst []) = H4 at hta htb s04 hR4 hq4 ⊢
    refine ⟨fun σ' H' => ∃ (pl : V) (a b : Addr) (y7 y8 y9 y10 y11 : Option V) (us : List V) (x : Tst) (ys : List Tst) (ls : List Nat), σ' = [some (.int c), some (.ref D), some (.ref R), some (.ref L), some pl, some (.ref a), some (.ref b), y7, y8, y9, y10, y11] ∧ Same H H' ∧ H' a = some (.lst us) ∧ TstsAt H' us (x :: ys) ∧ (∀ y ∈ x :: ys, GoodT y) ∧ ys.length ≤ 3 ∧ H' b = some (.lst (ls.map sv)) ∧ (∀ l ∈ ls, l ≤ 2) ∧ (ls.length = ys.length ∨ ls.length = ys.length + 1) ∧ H a = none ∧ H b = none, ?_, ?_⟩
    · refine ⟨.ref R, rfl, R, _, 1, .int (m1 : Int), rfl, rfl, SqL.of hR4, atI_nat (j := 1) (i_at a1), (m1 : Int), 1, rfl, rfl, (m1 : Int) + 1, rfl, by omega, by omega, ?_⟩
      rw [show ((m1 : Int) + 1).toNat = m1 + 1 by omega]
      refine for_range (lo := 0) (n := m1 + 1) (fun i σ H' => ∃ (qa a b : Addr) (y7 y8 y9 y10 y11 : Option V) (us : List V) (xs : List Tst) (ls : List Nat) (ns : List Int), σ = [some (.int c), some (.ref D), some (.ref R), some (.ref L), some (.ref qa), some (.ref a), some (.ref b), y7, y8, y9, y10, y11] ∧ Same H H' ∧ Same H4 H' ∧ H' qa = some (.tup (ns.map V.int)) ∧ (∃ k m cs, atP t ns = some (.el k m cs)) ∧ H' a = some (.lst us) ∧ TstsAt H' us xs ∧ (∀ y ∈ xs, GoodT y) ∧ xs.length = i ∧ H' b = some (.lst (ls.map sv)) ∧ (∀ l ∈ ls, l ≤ 2) ∧ ls.length = i ∧ H a = none ∧ H b = none)
        ⟨q0, ta, tb, none, none, none, none, none, [], [], [], ns0, rfl, s04, Same.refl _, hq4, hpe _ (List.mem_of_getElem? hn0), hta, TstsAt.nil, fun y h => absurd h List.not_mem_nil, rfl, htb, fun l h => absurd h List.not_mem_nil, rfl, nta0, ntb0⟩ ?_ ?_
      · rintro i σ H5 hi ⟨qa, a, b, y7, y8, y9, y10, y11, us, xs, ls, ns, rfl, sm, sm4, hqa, ⟨k, m, cs, hel⟩, ha, hT, hgx, hxl, hb, hgl, hll, na, nb⟩
        have e0 : (0 : Int) + (i : Int) = (i : Int) := by omega
        rw [e0]
        obtain ⟨k2, k3, k4, k5⟩ := limA_at i (by omega)
        obtain ⟨r2, e2, p2, u2⟩ := row_at hrow k2
        obtain ⟨r3, e3, p3, u3⟩ := row_at hrow k3
        obtain ⟨r4, e4, p4, u4⟩ := row_at hrow k4
        obtain ⟨r5, e5, p5, u5⟩ := row_at hrow k5
        have hR5 := sm4 _ _ hR4
        have hns : ns.length ≤ 200 := by have := atP_sz hel; omega
        obtain ⟨gk, gm, _⟩ := good_at hel hgd
        obtain ⟨iv, hg, ib, ev, rfl, hib, hev⟩ := (hN.same sm).get hel hqa
        refine ⟨.ref D, rfl, .ref qa, rfl, D, .ref ib, rfl, hg, ib, _, rfl, SqT.of hib, rfl, .str k, _, rfl, .str m, _, rfl, ev, _, rfl, .int (cs.length : Int), _, rfl, rfl, ?_⟩
        refine ⟨fun σ H' => ∃ k', σ = [some (.int c), some (.ref D), some (.ref R), some (.ref L), some (.ref qa), some (.ref a), some (.ref b), some (.int (i : Int)), some (.str k'), some (.str m), some ev, some (.int (cs.length : Int))] ∧ H' = H5 ∧ (k' = starS ∨ Name k'), ?_, ?_⟩
        · refine ⟨.ref R, rfl, .int (i : Int), rfl, 4, (i : Int), rfl, rfl, .inl ⟨by decide, by decide⟩, _, 4, rfl, rfl, R, _, _, .int r4, rfl, rfl, SqL.of hR5, at_of (j := 4 * i + 4) (by omega) (i_at e4), rfl, _, rfl, ite2 (fun _ => ?_) (fun _ => ?_)⟩
          · exact ⟨starS, rfl, rfl, .inl rfl⟩
          · exact ⟨k, rfl, rfl, .inr gk⟩
        rintro σ H' ⟨k', rfl, rfl, gk'⟩
        refine ⟨fun σ H2 => ∃ m', σ = [some (.int c), some (.ref D), some (.ref R), some (.ref L), some (.ref qa), some (.ref a), some (.ref b), some (.int (i : Int)), some (.str k'), some (.str m'), some ev, some (.int (cs.length : Int))] ∧ H2 = H' ∧ Mark m', ?_, ?_⟩
        · refine ⟨.ref R, rfl, .int (i : Int), rfl, 4, (i : Int), rfl, rfl, .inl ⟨by decide, by decide⟩, _, 5, rfl, rfl, R, _, _, .int r5, rfl, rfl, SqL.of hR5, at_of (j := 4 * i + 5) (by omega) (i_at e5), rfl, _, rfl, ite2 (fun _ => ?_) (fun _ => ?_)⟩
          · exact ⟨Str.ofString "", rfl, rfl, .inl tl_empty⟩
          · exact ⟨m, rfl, rfl, gm⟩
        rintro σ H6 ⟨m', rfl, rfl, gm'⟩
        have hul : us.length = i := by rw [hT.1, hxl]
        refine ⟨.str k', rfl, .str m', rfl, by show 2 ≤ sizeLine; decide, fun tt ntt => ⟨by show 1 ≤ sizeLine; decide, fun l1 n1 => ⟨.ref a, rfl, l1, a, [.ref tt], us, rfl, rfl, upd_same, same_new n1 _ _ (same_new ntt _ _ ha), by show 1 + us.length ≤ _; rw [sizeLine_eq]; omega, fun l2 n2 => ?_⟩⟩⟩
        have s7 := (same_new ntt (o := .tup [.str k', .str m'])).trans ((same_new n1 (o := .lst [.ref tt])).trans (same_new n2 (o := .lst ([.ref tt] ++ us))))
        have htt := same_new n2 (o := .lst ([.ref tt] ++ us)) _ _ (same_new n1 (o := .lst [.ref tt]) _ _ (upd_same (H := H6) (a := tt) (o := .tup [.str k', .str m'])))
        have nl2 : H l2 = none := (sm.trans ((same_new ntt (o := .tup [.str k', .str m'])).trans (same_new n1 (o := .lst [.ref tt])))).free n2
        have hl2 : (upd (upd (upd H6 tt (.tup [.str k', .str m'])) l1 (.lst [.ref tt])) l2 (.lst ([.ref tt] ++ us))) l2 = some (.lst (.ref tt :: us)) := upd_same
        generalize upd (upd (upd H6 tt (.tup [.str k', .str m'])) l1 (.lst [.ref tt])) l2 (.lst ([.ref tt] ++ us)) = H7 at s7 htt hl2 ⊢
        have hT7 : TstsAt H7 (.ref tt :: us) ((k', m') :: xs) := by
          have h1 := hT.same s7
          refine ⟨by simpa using h1.1, fun n v y hv hy => ?_⟩
          cases n with
          | zero => simp at hv hy; subst hv hy; exact ⟨tt, rfl, htt⟩
          | succ n => exact h1.2 n v y (by simpa using hv) (by simpa using hy)
        have hg7 : ∀ y ∈ (k', m') :: xs, GoodT y := fun y hy => by
          rcases List.mem_cons.mp hy with rfl | h
          · exact ⟨gk', gm'⟩
          · exact hgx y h
        have hR7 := s7 _ _ hR5
        have hb7 := s7 _ _ hb
        have hq7 := s7 _ _ hqa
        have sm7 := sm.trans s7
        have s47 := sm4.trans s7
        refine ⟨.ref R, rfl, .int (i : Int), rfl, 4, (i : Int), rfl, rfl, .inl ⟨by decide, by decide⟩, _, 2, rfl, rfl, R, _, _, .int r2, rfl, rfl, SqL.of hR7, at_of (j := 4 * i + 2) (by omega) (i_at e2), rfl, _, rfl, and_share ?_ (fun _ els => ?_)⟩
        · refine ⟨.ref qa, rfl, Nat.zero_le _, fun o no => ?_⟩
          have s8 := same_new no (o := .tup [])
          refine ⟨.tuple (ns.map PyData.int), .tuple [], .tup (SqT.of (s8 _ _ hq7)) (dp_ints ns), .tup (SqT.of upd_same) .nil, shaped_ints ns, shaped_ints [], _, rfl, ?_⟩
          rw [eqv_unit]
          have sm8 := sm7.trans s8
          have s48 := s47.trans s8
          have hb8 := s8 _ _ hb7
          have hq8 := s8 _ _ hq7
          have hR8 := s8 _ _ hR7
          have hT8 := hT7.same s8
          have hl8 := s8 _ _ hl2
          generalize upd H7 o (.tup []) = H8 at s8 sm8 s48 hb8 hq8 hR8 hT8 hl8 ⊢
          by_cases hn : ns = []
          · rw [decide_eq_true hn]
            exact iteT ⟨_, l2, b, _, _, _, _, _, _, (k', m'), xs, ls, rfl, sm8, hl8, hT8, hg7, by omega, hb8, hgl, .inl (by omega), nl2, nb⟩
          · rw [decide_eq_false hn]
            refine iteF ⟨.ref R, rfl, .int (i : Int), rfl, 4, (i : Int), rfl, rfl, .inl ⟨by decide, by decide⟩, _, 2, rfl, rfl, R, _, _, .int r2, rfl, rfl, SqL.of hR8, at_of (j := 4 * i + 2) (by omega) (i_at e2), rfl, _, rfl, ite2 (fun _ => ?_) (fun _ => ?_)⟩
            · have hme := linked_el hel 1 ns.dropLast (by unfold linked; rw [if_neg (by decide), if_neg hn, if_pos rfl]; exact List.mem_singleton.mpr rfl)
              obtain ⟨ms, z, rfl⟩ := snoc_of hn
              rw [List.dropLast_concat] at hme
              refine ⟨by show 1 ≤ sizeLine; decide, fun l3 n3 => ⟨.ref b, rfl, l3, b, _, _, rfl, rfl, upd_same, same_new n3 _ _ hb8, by show 1 + (ls.map sv).length ≤ _; rw [sizeLine_eq, List.length_map]; omega, fun l4 n4 => ?_⟩⟩
              have s9 := (same_new n3 (o := .lst [sv 1])).trans (same_new n4 (o := .lst ([sv 1] ++ ls.map sv)))
              have nl4 : H l4 = none := (sm8.trans (same_new n3 (o := .lst [sv 1]))).free n4
              refine ⟨.ref qa, rfl, 1, rfl, -1, rfl, qa, _, rfl, SqT.of (s9 _ _ hq8), fun hw => absurd hw (cut_whole ms _), fun _ c2 nc2 => ?_⟩
              rw [cut_last]
              have sc := same_new nc2 (o := .tup (ms.map V.int))
              exact ⟨c2, l2, l4, _, _, _, _, _, _, (k', m') :: xs, 1 :: ls, ms, rfl, sm8.trans (s9.trans sc), s48.trans (s9.trans sc), upd_same, hme, sc _ _ (s9 _ _ hl8), (hT8.same s9).same sc, hg7, by rw [List.length_cons, hxl], sc _ _ upd_same, fun l h => by rcases List.mem_cons.mp h with rfl | h; decide; exact hgl l h, by rw [List.length_cons, hll], nl2, nl4⟩
            · refine ⟨by show 1 ≤ sizeLine; decide, fun l3 n3 => ⟨.ref b, rfl, l3, b, _, _, rfl, rfl, upd_same, same_new n3 _ _ hb8, by show 1 + (ls.map sv).length ≤ _; rw [sizeLine_eq, List.length_map]; omega, fun l4 n4 => ?_⟩⟩
              have s9 := (same_new n3 (o := .lst [sv 0])).trans (same_new n4 (o := .lst ([sv 0] ++ ls.map sv)))
              have nl4 : H l4 = none := (sm8.trans (same_new n3 (o := .lst [sv 0]))).free n4
              have hnp : 0 < ns.length := List.length_pos_iff.mpr hn
              have hf : 0 ≤ r3.fmod (((ns.map V.int).length : Nat) : Int) ∧ r3.fmod (((ns.map V.int).length : Nat) : Int) < (((ns.map V.int).length : Nat) : Int) := ⟨Int.fmod_nonneg_of_pos _ (by rw [List.length_map]; omega), Int.fmod_lt_of_pos _ (by rw [List.length_map]; omega)⟩
              refine ⟨.ref qa, rfl, .ref R, rfl, .int (i : Int), rfl, 4, (i : Int), rfl, rfl, .inl ⟨by decide, by decide⟩, _, 3, rfl, rfl, R, _, _, .int r3, rfl, rfl, SqL.of (s9 _ _ hR8), at_of (j := 4 * i + 3) (by omega) (i_at e3), .inl ⟨r3, rfl, .ref qa, rfl, .ref qa, (ns.map V.int).length, rfl, .inr ⟨_, SqT.of (s9 _ _ hq8), rfl⟩, r3, _, rfl, rfl, by rw [List.length_map]; omega, ?_⟩⟩
              dsimp only
              generalize r3.fmod (((ns.map V.int).length : Nat) : Int) = g at hf ⊢
              rw [List.length_map] at hf
              obtain ⟨d, rfl⟩ : ∃ d : Nat, g = (d : Int) := ⟨g.toNat, by omega⟩
              have hd : d < ns.length := by omega
              obtain ⟨c1, c2⟩ := cut_takeI ns hd
              obtain ⟨kd, md, csd, hme⟩ := take_el hel hd
              refine ⟨(d : Int), rfl, qa, _, rfl, SqT.of (s9 _ _ hq8), fun hw => absurd hw c2, fun _ c3 nc3 => ?_⟩
              rw [c1]
              have sc := same_new nc3 (o := .tup ((ns.take d).map V.int))
              exact ⟨c3, l2, l4, _, _, _, _, _, _, (k', m') :: xs, 0 :: ls, ns.take d, rfl, sm8.trans (s9.trans sc), s48.trans (s9.trans sc), upd_same, ⟨kd, md, csd, hme⟩, sc _ _ (s9 _ _ hl8), (hT8.same s9).same sc, hg7, by rw [List.length_cons, hxl], sc _ _ upd_same, fun l h => by rcases List.mem_cons.mp h with rfl | h; decide; exact hgl l h, by rw [List.length_cons, hll], nl2, nl4⟩
        · refine ⟨ev, rfl, rfl, _, rfl, ?_⟩
          cases he : eldP t ns with
          | none =>
            rw [he] at hev
            have hev : ev = .non := hev
            subst hev
            exact iteF els
          | some ms =>
            rw [he] at hev
            obtain ⟨c1, rfl, hc1⟩ := hev
            have hme := linked_el hel 2 ms (by unfold linked; rw [if_pos rfl, he]; exact List.mem_singleton.mpr rfl)
            refine iteT ⟨by show 1 ≤ sizeLine; decide, fun l3 n3 => ⟨.ref b, rfl, l3, b, _, _, rfl, rfl, upd_same, same_new n3 _ _ hb7, by show 1 + (ls.map sv).length ≤ _; rw [sizeLine_eq, List.length_map]; omega, fun l4 n4 => ?_⟩⟩
            have s9 := (same_new n3 (o := .lst [sv 2])).trans (same_new n4 (o := .lst ([sv 2] ++ ls.map sv)))
            have nl4 : H l4 = none := (sm7.trans (same_new n3 (o := .lst [sv 2]))).free n4
            exact ⟨.ref c1, rfl, c1, l2, l4, _, _, _, _, _, _, (k', m') :: xs, 2 :: ls, ms, rfl, sm7.trans s9, s47.trans s9, s9 _ _ (s7 _ _ hc1), hme, s9 _ _ hl2, hT7.same s9, hg7, by rw [List.length_cons, hxl], upd_same, fun l h => by rcases List.mem_cons.mp h with rfl | h; decide; exact hgl l h, by rw [List.length_cons, hll], nl2, nl4⟩
      · rintro σ H5 ⟨qa, a, b, y7, y8, y9, y10, y11, us, xs, ls, ns, rfl, sm, sm4, hqa, hel, ha, hT, hgx, hxl, hb, hgl, hll, na, nb⟩
        obtain ⟨x, ys, rfl⟩ := hT.split (by rw [hT.1]; omega)
        have : ys.length = m1 := by simpa using hxl
        exact ⟨_, a, b, _, _, _, _, _, us, x, ys, ls, rfl, sm, ha, hT, hgx, by omega, hb, hgl, .inr (by omega), na, nb⟩
    rintro σ H5 ⟨pl, a, b, y7, y8, y9, y10, y11, us, x, ys, ls, rfl, sm, ha, hT, hgx, hyl, hb, hgl, hll, na, nb⟩
    have hul : us.length = ys.length + 1 := hT.1
    refine ⟨.ref a, rfl, .ref b, rfl, .ref b, rfl, .ref b, (ls.map sv).length, rfl, .inl ⟨_, SqL.of hb, rfl⟩, .ref a, rfl, .ref a, us.length, rfl, .inl ⟨_, SqL.of ha, rfl⟩, _, _, rfl, rfl, _, 1, rfl, rfl, _, rfl, b, _, rfl, SqL.of hb, fun l5 n5 => ⟨by show 2 ≤ sizeLine; decide, fun p np => ?_⟩⟩
    obtain ⟨d, hd, hcut⟩ : ∃ d : Nat, (ls.drop d).length = ys.length ∧ cutV (ls.map sv) (some ((((ls.map sv).length : Nat) : Int) - ((us.length : Nat) : Int) + 1)) none = (ls.drop d).map sv := by
      rw [List.length_map]
      rcases hll with h | h
      · refine ⟨0, h, ?_⟩
        rw [show ((ls.length : Nat) : Int) - ((us.length : Nat) : Int) + 1 = ((0 : Nat) : Int) by omega, cut_drop _ (Nat.zero_le _), List.map_drop]
      · refine ⟨1, by rw [List.length_drop]; omega, ?_⟩
        rw [show ((ls.length : Nat) : Int) - ((us.length : Nat) : Int) + 1 = ((1 : Nat) : Int) by omega, cut_drop _ (by rw [List.length_map]; omega), List.map_drop]
    rw [hcut] at np ⊢
    have s5 := same_new n5 (o := .lst ((ls.drop d).map sv))
    have sp := same_new np (o := .lst [.ref a, .ref l5])
    exact q _ p a l5 x ((ls.drop d).zip ys) (sm.trans (s5.trans sp)) ((sm.trans s5).free np) na (sm.free n5) upd_same (drawn_of (sp _ _ (s5 _ _ ha)) ((hT.same s5).same sp) (sp _ _ upd_same) hd hgx (fun l h => hgl l (List.mem_of_mem_drop h)) hyl)
end
end K09

set_option maxRecDepth 100000
set_option maxHeartbeats 4000000
namespace K09
open PySem PySem.Spec PyProof.Rows L2
/-! ### an instance called, what the call lets out told by the slots -/
section
variable {X : Cx} {CX : CXT} {k : Nat} {f C : Addr} {fd : FuncData} {ps : List Str} {sp : Sp} {E : L2.St → XK} {pos : Pos} {e fe : Expr} {es : List Expr} {tf : TE} {t : TA}
theorem run_callOS {pins : List (Addr × Obj)} {σ : L2.St} {H : Hp} {s : Shared} {Q : VK} {a : Addr} {us : List Value} {vs : List V} (c : StX.CallO X.K C f) (F : FnOk X.prog X.w X.K X.mg X.base CX k f fd ps sp) (hr : Room k X.A) (hb : Binds X.K fd ps []) (hx : PassesAt CX X σ (E σ))
    (I : Inv X pins σ H s) (hi : ∃ dx fs, H a = some (.ins C dx fs)) (r : Vals vs us) (h : sp (.ref a :: vs) H Q (E σ)) : wpAny (model X.prog X.w) X.A (call (.ref a) us) (EP X pins σ Q) X.xe s := by
  obtain ⟨ox, od, J, hd⟩ := StX.insC_at I (.inr hi)
  have r2 : Vals (.ref a :: vs) (.ref a :: us) := .cons rfl r
  have hl : (Value.ref a :: us).length = ps.length := by rw [← r2.length]; exact F.len _ _ _ _ h
  have b := hb s (.ref a :: us) I.kIn (by rw [List.append_nil]; exact hl)
  rw [List.append_nil] at b
  refine wpAny_call (PySem.W.kco_code I.kIn J hd c.at_ c.fn c.fi (codeAny_mono (F.run X.A X.stack s H ⟨.ref a :: us, []⟩ (.ref a :: us) (.ref a :: vs) Q (E σ) hr I.env0 b r2 h) fun r s' hq => ?_))
  cases r with
  | error e => exact hx pins H s e s' I hq
  | ok fl =>
    cases fl with
    | ret u => exact I.after hq
    | next => exact False.elim hq
    | brk => exact False.elim hq
    | cont => exact False.elim hq
def tCallOS (C : Addr) (sp : Sp) (E : L2.St → XK) (tf : TE) (t : TA) : TE := fun σ H Q => tf σ H fun y H1 => ∃ a, y = V.ref a ∧ t σ H1 fun vs H2 => (∃ dx fs, H2 a = some (.ins C dx fs)) ∧ sp (V.ref a :: vs) H2 Q (E σ)
theorem pe_callOS (hf : PE X fe tf) (c : StX.CallO X.K C f) (F : FnOk X.prog X.w X.K X.mg X.base CX k f fd ps sp) (hr : Room k X.A) (hb : Binds X.K fd ps []) (hx : ∀ σ, PassesAt CX X σ (E σ)) (ha : PA X (e :: es) t)
    (ht : eval (.Call fe (e :: es) [] pos) X.env = (do callWith pos (← eval fe X.env) [] (backTo pos (starEach (e :: es) X.env)) (backToKw pos (keywordEach [] X.env))) := by rfl)
    (he : starEach (e :: es) X.env = (false, eval e X.env) :: starEach es X.env := by rfl) (hpl : (backTo pos (starEach es X.env)).any (·.1) = false := by rfl) : PE X (.Call fe (e :: es) [] pos) (tCallOS C sp E tf t) := by
  refine ⟨fun pins s σ H Q I h => ?_⟩
  refine Call_ (thn (hf.run pins s σ H _ I h) fun u s1 ⟨y, H1, I1, ry, a, ey, q⟩ => ?_) ht
  subst ey
  obtain rfl : u = Value.ref a := ry
  refine StX.callO_with (thn (ha.run pos pins s1 σ H1 _ I1 q) fun us s2 ⟨vs, H2, I2, r, hi, q2⟩ => ?_) he hpl
  obtain ⟨ox, od, J, hd⟩ := StX.insC_at I2 (.inr hi)
  exact ⟨⟨C, ox, od, J, hd⟩, run_callOS c F hr hb (hx σ) I2 hi r q2⟩
end
theorem passN1 {X : Cx} (σ : L2.St) : PassesAt (L2.CX X.prog X.w) X σ ((fun _ => E0 : L2.St → XK) σ) := fun pins H s e s' I c => passN pins σ H s e s' I c
/-- what the errors' classes must say -/
structure Errs (K : PySem.W.Frag) (mg : Str → Option Value) (C CL CB : Addr) : Prop where
  gL : mg "LaidError" = some (.ref CL)
  gB : mg "BadPattern" = some (.ref CB)
  ex : ExcC K C
  exm : PySem.W.exmOne K (.ref C) (.ref C) = some true
  k1 : PySem.W.kitOne K (.ref C) (.ref CL) = some true
  k2 : PySem.W.kitOne K (.ref C) (.type "ValueError") = some true
  k3 : PySem.W.kitOne K (.ref C) (.ref CB) = some false
theorem eqv_self (ns : List Int) : PyData.eqv (.tuple (ns.map PyData.int)) (.tuple (ns.map PyData.int)) = true := by
  have h : ∀ ns : List Int, PyData.eqvAll (ns.map PyData.int) (ns.map PyData.int) = true := fun ns => by
    induction ns with
    | nil => simp [PyData.eqvAll]
    | cons n ns ih => simp [PyData.eqvAll, PyData.eqv, ih]
  simp only [PyData.eqv]; exact h ns
section
variable {P : Program} {w : World} {K : PySem.W.Frag} {mg : Str → Option Value} {base : Heap} {t1 t2 t3 t4 t5 t6 : Tok}
abbrev PC (P : Program) (w : World) (K : PySem.W.Frag) (mg : Str → Option Value) (base : Heap) (f CP C : Addr) (fd : FuncData) : Prop := FnOk P w K mg base (L2.CX P w) 12 f fd ["self", "tree", "place"] (spPCall CP C)
/-! ### _law_right -/
def spRight (K : PySem.W.Frag) (CP : Addr) : Sp := fun vs H Q _ => ∃ (p D o a b L : Addr) (v : V) (t : T) (kvs : List (List Key × V)) (x : Tst) (rs : List (Nat × Tst)) (us : List V) (ps : List (List Int)), vs = [.ref p, v, .ref D, .ref o, .ref L] ∧ PatAt CP H p (x :: rs.map (·.2)) (rs.map (·.1)) ∧ IsT H v t ∧ sz t ≤ 200 ∧ Noted H D t kvs ∧
  H o = some (.lst [.ref a, .ref b]) ∧ Drawn H a b x rs ∧ SqL K H L us ∧ PlacesAt H us ps ∧ (∀ q ∈ ps, ∃ k m cs, atP t q = some (.el k m cs)) ∧ ∀ H', Same H H' → Q (.bl true) H'
abbrev nRi : List Str := ["_law_pattern", "_law_tree_here", "_law_nodes_here", "_law_drawn", "_law_places", "_law_place", "_law_answer"]
theorem scRight : FnScope nRi ["_law_pattern", "_law_tree_here", "_law_nodes_here", "_law_drawn", "_law_places"] (defScope sRight) := ⟨rfl, rfl, rfl, by decide +kernel, rfl, by decide +kernel, by decide +kernel⟩
theorem ok_right {f CP C f_pcall f_fits : Addr} {fd fd_pcall fd_fits : FuncData} (B : Blt mg) (F : Fun K "_law_right" "_law_right" sRight f fd)
    (G_pcall : PC P w K mg base f_pcall CP C fd_pcall) (b_pcall : Binds K fd_pcall ["self", "tree", "place"] []) (c_pcall : StX.CallO K CP f_pcall)
    (F_fits : Fun K "_law_fits" "_law_fits" sFits f_fits fd_fits) (b_fits : Binds K fd_fits ["_law_nodes_here", "_law_tests", "_law_links", "_law_place", "_law_t"] []) (g_fits : mg "_law_fits" = some (.ref f_fits)) :
    FnOk P w K mg base CX0 13 f fd ["_law_pattern", "_law_tree_here", "_law_nodes_here", "_law_drawn", "_law_places"] (spRight K CP) := by
  have G_fits : FnOk P w K mg base CX0 5 f_fits fd_fits ["_law_nodes_here", "_law_tests", "_law_links", "_law_place", "_law_t"] (spFits 4) := ok_fits B F_fits b_fits g_fits 4
  refine F.ok scRight (fun vs H Q E h => ?_) (fun cdv A0 outer s H vs Q E hr h => ?_)
  · obtain ⟨p, D, o, a, b, L, v, t, kvs, x, rs, us, ps, rfl, _⟩ := h; rfl
  · obtain ⟨p, D, o, a, b, L, v, t, kvs, x, rs, us, ps, rfl, hP, ht, hsz, hN, ho, hD, hL, hps, hel, q⟩ := h
    have hr5 : Room 5 _ := hr.mono (by decide)
    refine ⟨_, (pss_cons (ps_for (PassesOwn.never) rfl (pi_list (pv 4)) (pg_name (i := 5) scRight.nd rfl (.inl rfl))
      (pss_cons (ps_set (i := 6) scRight.nd rfl (.inl rfl) (pe_callOS (pv 0) c_pcall G_pcall hr b_pcall passN1 (pa_cons (pv 1) (pa_cons (pv 5) pa_nil))))
       (pss_cons (ps_if (pt_not (pt_val (pe_callB call_isi (by rfl) B.isi (by decide +kernel) (pa_cons (pv 6) (pa_cons (pe_bltn (v := .ty "bool") (by rfl) B.bool (by decide +kernel) rfl) pa_nil)))))
       (pss_one (ps_ret pe_bl))
       pss_nil)
       (pss_one (ps_if (pt_cmpR op_ne (pv 6) (pe_call G_fits hr5 (by rfl) g_fits F_fits.kp b_fits .nil pass0 (pa_cons (pv 2) (pa_cons (pe_ix ix_list (pv 3) pe_int (fun _ _ => rfl)) (pa_cons (pe_ix ix_list (pv 3) pe_int (fun _ _ => rfl)) (pa_cons (pv 5) (pa_cons (pe_op op_sub (pe_callB call_len (by rfl) B.len PySem.boot_len (pa_cons (pe_ix ix_list (pv 3) pe_int (fun _ _ => rfl)) pa_nil)) pe_int) pa_nil)))))) (nomark _))
       (pss_one (ps_ret pe_bl))
       pss_nil)))))
      (pss_one (ps_ret pe_bl))), ?_⟩
    have hab := hD.tests
    obtain ⟨ut, hut, huT⟩ := hab
    have hul : ut.length = rs.length + 1 := by rw [huT.1]; simp
    have h3 := hD.len
    refine ⟨.ref L, rfl, L, rfl, ⟨_, hL⟩, for_list (K := K) (a := L) (xs := us) (fun i σ H' => ∃ y5 y6 : Option V, σ = [some (.ref p), some v, some (.ref D), some (.ref o), some (.ref L), y5, y6] ∧ Same H H')
      ⟨none, none, rfl, Same.refl _⟩ (fun i σ H' _ ⟨_, _, _, sm⟩ => sm.seq hL) ?_ ?_⟩
    · rintro i u σ H' hi ⟨y5, y6, rfl, sm⟩
      obtain ⟨qn, qb, hqn, rfl, hqb⟩ := hps.get hi
      obtain ⟨k, m, cs, hq⟩ := hel qn (List.mem_of_getElem? hqn)
      have hP' := hP.same sm
      obtain ⟨dx, fs, pa, pb, hp, _⟩ := id hP'
      refine ⟨.ref p, rfl, p, rfl, v, rfl, .ref qb, rfl, ⟨dx, fs, hp⟩, p, qb, v, t, qn, _, _, rfl, hP', ht.mono (Same.tups sm), by omega, sm _ _ hqb, Nat.succ_le_succ (Nat.zero_le _), by rw [List.length_cons, List.length_map]; omega, by rw [List.length_cons, List.length_map, List.length_map], fun l hl => ?_, fun _ H2 s2 => ?_, fun hn => absurd hq (hn _ _ _)⟩
      · obtain ⟨r, hr', rfl⟩ := List.mem_map.mp hl
        exact (hD.gr r hr').1
      rw [show (x :: rs.map (·.2)).length - 1 = rs.length by rw [List.length_cons, List.length_map]; rfl]
      have s02 := sm.trans s2
      refine ⟨.bl (mt t (x :: rs.map (·.2)) (rs.map (·.1)) rs.length qn), rfl, .bl _, .ty "bool", .type "bool", .type "bool", true, rfl, .ty "bool", .base (.bl _), kit_ty (by decide +kernel), _, rfl, iteF ?_⟩
      have ho2 := s02 _ _ ho
      refine ⟨_, rfl, .ref D, rfl, .ref o, rfl, o, _, 0, .ref a, rfl, rfl, SqL.of ho2, atI_nat (j := 0) rfl, .ref o, rfl, o, _, 1, .ref b, rfl, rfl, SqL.of ho2, atI_nat (j := 1) rfl, .ref qb, rfl, .ref o, rfl, o, _, 0, .ref a, rfl, rfl, SqL.of ho2, atI_nat (j := 0) rfl, .ref a, ut.length, rfl, .inl ⟨_, SqL.of (s02 _ _ hut), rfl⟩, _, 1, rfl, rfl, D, a, b, qb, t, kvs, x, rs, qn, rs.length, ?_, hN.same s02, hD.same s02, hsz, s02 _ _ hqb, ⟨k, m, cs, hq⟩, by omega, Nat.le_refl _, fun H3 s3 => ⟨rfl, _, rfl, ?_⟩⟩
      · show [V.ref D, V.ref a, V.ref b, V.ref qb, V.int (((ut.length : Nat) : Int) - 1)] = _
        rw [show ((ut.length : Nat) : Int) - 1 = ((rs.length : Nat) : Int) by omega]
      · rw [decide_eq_true rfl]
        exact iteF ⟨_, _, rfl, s02.trans s3⟩
    · rintro σ H' ⟨y5, y6, rfl, sm⟩
      exact q _ sm
/-! ### _law_no_place -/
def spNo (CP : Addr) : Sp := fun vs H Q _ => ∃ (p q : Addr) (v : V) (t : T) (ts : List Tst) (ls : List Nat) (ns : List Int), vs = [.ref p, v, .ref q] ∧ PatAt CP H p ts ls ∧ IsT H v t ∧ sz t ≤ 200 ∧ H q = some (.tup (ns.map V.int)) ∧ 1 ≤ ts.length ∧ ts.length ≤ 4 ∧ ts.length = ls.length + 1 ∧ (∀ l ∈ ls, l ≤ 2) ∧
  (∀ k m cs, atP t ns ≠ some (.el k m cs)) ∧ ∀ H', Same H H' → Q (.bl true) H'
abbrev nNo : List Str := ["_law_pattern", "_law_tree_here", "_law_place", "e"]
theorem scNo : FnScope nNo ["_law_pattern", "_law_tree_here", "_law_place"] (defScope sNo) := ⟨rfl, rfl, rfl, by decide +kernel, rfl, by decide +kernel, by decide +kernel⟩
theorem ok_no {f CP C CL CB fI f_pcall : Addr} {fd fdI fd_pcall : FuncData} (B : Blt mg) (N : NoP K mg C fI fdI) (R : Errs K mg C CL CB) (F : Fun K "_law_no_place" "_law_no_place" sNo f fd)
    (G_pcall : PC P w K mg base f_pcall CP C fd_pcall) (b_pcall : Binds K fd_pcall ["self", "tree", "place"] []) (c_pcall : StX.CallO K CP f_pcall) :
    FnOk P w K mg base CX0 13 f fd ["_law_pattern", "_law_tree_here", "_law_place"] (spNo CP) := by
  have xf : XfC K C := ⟨R.ex.hg, R.ex.hk, R.ex.hs, R.ex.hd⟩
  refine F.ok scNo (fun vs H Q E h => ?_) (fun cdv A0 outer s H vs Q E hr h => ?_)
  · obtain ⟨p, q, v, t, ts, ls, ns, rfl, _⟩ := h; rfl
  · obtain ⟨p, q, v, t, ts, ls, ns, rfl, hP, ht, hsz, hq, h1, h4, hlen, hl2, hno, qq⟩ := h
    refine ⟨_, pss_cons (ps_try_as (i := 3) (Wout := fun _ _ _ _ => False) rfl rfl scNo.nd rfl rfl ⟨rfl, by decide, .inl N.gC⟩ takes0
        (fun W pn xe tk _ => pss_one (ps_expr (pe_callOS (pv 0) c_pcall G_pcall hr b_pcall (fun σ => passAt tk σ) (pa_cons (pv 1) (pa_cons (pv 2) pa_nil)))))
        (fun a oe cls d pn hz hf => pss_cons (ps_if (PW.pt (pw_or (pt_val (pe_callB (call_isD R.ex hz hf) (by rfl) B.isi (by decide +kernel) (pa_cons (pv 3) (pa_cons (pe_glob (v := .ref CB) (by rfl) R.gB rfl) pa_nil))))
            (pw_or (pt_not (pt_val (pe_callB (call_isD R.ex hz hf) (by rfl) B.isi (by decide +kernel) (pa_cons (pv 3) (pa_cons (pe_glob (v := .ref CL) (by rfl) R.gL rfl) pa_nil)))))
            (pw_or1 (pt_not (pt_val (pe_callB (call_isD R.ex hz hf) (by rfl) B.isi (by decide +kernel) (pa_cons (pv 3) (pa_cons (pe_bltn (v := .ty "ValueError") (by rfl) B.ve (by decide +kernel) rfl) pa_nil)))))))))
          (pss_one (ps_ret pe_bl)) pss_nil)
          (pss_one (ps_ret (pe_and (pe_callB (show CallR _ (.builtin "isinstance") (rIsi K) from call_isi) (by rfl) B.isi (by decide +kernel) (pa_cons (pe_xf xf N.fp hz hf (pv 3)) (pa_cons (pe_bltn (v := .ty "tuple") (by rfl) B.tuple (by decide +kernel) rfl) pa_nil))) (pe_one (pe_cmpR (show OpR _ _ (rEqD K) from op_eqD hr.units) (pe_xf xf N.fp hz hf (pv 3)) (pv 2) (nomark _))))))))
      (pss_one (ps_ret pe_bl)), ?_⟩
    obtain ⟨dx, fs, pa, pb, hp, _⟩ := id hP
    refine ⟨.ref p, rfl, p, rfl, v, rfl, .ref q, rfl, ⟨dx, fs, hp⟩, p, q, v, t, ns, ts, ls, rfl, hP, ht, by omega, hq, h1, h4, hlen, hl2, fun ⟨k, m, cs, he⟩ => absurd he (hno _ _ _), fun _ d hd => ⟨true, R.exm, fun _ a ha => ?_, fun q => nomatch q⟩⟩
    have isr : ∀ {c : V} {cv : Value}, (c = .ref CL ∧ cv = .ref CL) ∨ (c = .ty "ValueError" ∧ cv = .type "ValueError") ∨ (c = .ref CB ∧ cv = .ref CB) → ∀ u, RelV c u → u = cv := by
      rintro c cv (⟨rfl, rfl⟩ | ⟨rfl, rfl⟩ | ⟨rfl, rfl⟩) u hu <;> exact hu
    have sd := same_new hd (o := .xd [("place", .ref q)])
    refine ⟨.ref a, rfl, .ref CB, .ref CB, false, d, _, rfl, rfl, isr (.inr (.inr ⟨rfl, rfl⟩)), R.k3, rfl, upd_same, _, rfl, iteF ?_⟩
    refine ⟨.ref a, rfl, .ref CL, .ref CL, true, d, _, rfl, rfl, isr (.inl ⟨rfl, rfl⟩), R.k1, rfl, upd_same, _, rfl, iteF ?_⟩
    refine ⟨.ref a, rfl, .ty "ValueError", .type "ValueError", true, d, _, rfl, rfl, isr (.inr (.inl ⟨rfl, rfl⟩)), R.k2, rfl, upd_same, _, rfl, iteF ?_⟩
    refine ⟨.ref a, rfl, rfl, rfl, d, _, .ref q, rfl, upd_same, rfl, .ref q, .ty "tuple", .type "tuple", .type "tuple", true, rfl, .ty "tuple", ty_tup (sd _ _ hq), kit_ty (by decide +kernel), _, rfl, iteT ?_⟩
    refine ⟨.ref a, rfl, rfl, rfl, d, _, .ref q, rfl, upd_same, rfl, .ref q, rfl, .tuple (ns.map PyData.int), .tuple (ns.map PyData.int), .tup (SqT.of (sd _ _ hq)) (dp_ints ns), .tup (SqT.of (sd _ _ hq)) (dp_ints ns), shaped_ints ns, shaped_ints ns, ?_⟩
    rw [eqv_self]
    exact qq _ sd
end
end K09

set_option maxRecDepth 100000
set_option maxHeartbeats 4000000
namespace K09
open PySem PySem.Spec PyProof.Rows L2
theorem PlacesAt.sub {H : Hp} {us : List V} {ps : List (List Int)} (h : PlacesAt H us ps) (i n : Nat) : PlacesAt H ((us.drop i).take n) ((ps.drop i).take n) := by
  refine ⟨by rw [List.length_take, List.length_take, List.length_drop, List.length_drop, h.1], fun j v q hv hq => ?_⟩
  rw [List.getElem?_take, List.getElem?_drop] at hv hq
  by_cases hj : j < n
  · rw [if_pos hj] at hv hq; exact h.2 _ v q hv hq
  · rw [if_neg hj] at hv; cases hv
theorem PlacesAt.app {H : Hp} {us vs : List V} {ps qs : List (List Int)} (h : PlacesAt H us ps) (h2 : PlacesAt H vs qs) : PlacesAt H (us ++ vs) (ps ++ qs) := by
  refine ⟨by rw [List.length_append, List.length_append, h.1, h2.1], fun j v q hv hq => ?_⟩
  by_cases hj : j < us.length
  · rw [List.getElem?_append_left hj] at hv
    rw [List.getElem?_append_left (by rw [← h.1]; exact hj)] at hq
    exact h.2 j v q hv hq
  · rw [List.getElem?_append_right (by omega)] at hv
    rw [List.getElem?_append_right (by rw [← h.1]; omega), ← h.1] at hq
    exact h2.2 _ v q hv hq
theorem cut_some (xs : List V) (lo hi : Option Int) : ∃ i n, cutV xs lo hi = (xs.drop i).take n := ⟨_, _, rfl⟩
theorem PlacesAt.cut {H : Hp} {us : List V} {ps : List (List Int)} (h : PlacesAt H us ps) (lo hi : Option Int) : ∃ qs, PlacesAt H (cutV us lo hi) qs ∧ ∀ q ∈ qs, q ∈ ps := by
  obtain ⟨i, n, e⟩ := cut_some us lo hi
  rw [e]
  exact ⟨_, h.sub i n, fun q hq => List.mem_of_mem_drop (List.mem_of_mem_take hq)⟩
theorem cut_len (xs : List V) (n : Nat) : (cutV xs none (some (n : Int))).length ≤ n := by
  unfold cutV
  rw [HT.sIx_none, HT.sIx_nat, List.drop_zero, List.length_take]; omega
theorem szs_reverse (cs : List T) : szs cs.reverse = szs cs := by
  induction cs with
  | nil => rfl
  | cons c cs ih => rw [List.reverse_cons, szs_append, ih]; simp only [szs]; omega
theorem AllT.rev {H : Hp} {vs : List V} {cs : List T} (h : AllT H vs cs) : AllT H vs.reverse cs.reverse := by
  refine ⟨by rw [List.length_reverse, List.length_reverse]; exact h.1, fun i v c hv hc => ?_⟩
  have hi : i < vs.length := by have := (List.getElem?_eq_some_iff.mp hv).1; rwa [List.length_reverse] at this
  rw [List.getElem?_reverse hi] at hv
  rw [List.getElem?_reverse (by rw [← h.1]; exact hi), ← h.1] at hc
  exact h.2 _ v c hv hc
theorem six_of {zs : List Str} (h : zs.length = 6) : ∃ a b c d e f, zs = [a, b, c, d, e, f] := by
  match zs, h with
  | [a, b, c, d, e, f], _ => exact ⟨a, b, c, d, e, f, rfl⟩
theorem tail_len (rs : List (Nat × Tst)) : (tail rs).length ≤ 2 * rs.length := by
  induction rs with
  | nil => exact Nat.zero_le _
  | cons r rs ih =>
    obtain ⟨l, y⟩ := r
    have e : tail ((l, y) :: rs) = (if l = 0 then [Tk.tst y] else [Tk.lnk l, Tk.tst y]) ++ tail rs := rfl
    rw [e, List.length_append, List.length_cons]
    split
    · show 1 + _ ≤ _; omega
    · show 2 + _ ≤ _; omega
def NoEl (t : T) (q : List Int) : Prop := ∀ k m cs, atP t q ≠ some (.el k m cs)
theorem noel_txt {t : T} {q : List Int} {z : Str} (h : atP t q = some (.txt z)) : NoEl t q := fun k m cs e => by rw [h] at e; cases e
theorem noel_below {t : T} {q : List Int} {z : Str} (h : atP t q = some (.txt z)) (i : Int) : NoEl t (q ++ [i]) := fun k m cs e => by
  rw [atP_snoc, h, Option.bind_some] at e; simp [step1, kids] at e
theorem noel_behind {t : T} {q : List Int} {k m : Str} {cs : List T} (h : atP t q = some (.el k m cs)) : NoEl t (q ++ [(cs.length : Int)]) := fun k' m' ds e => by
  rw [atP_snoc, h, Option.bind_some, step1_nat] at e; simp at e
section
variable {P : Program} {w : World} {K : PySem.W.Frag} {mg : Str → Option Value} {base : Heap} {t1 t2 t3 t4 t5 t6 : Tok}
def spLaw (K : PySem.W.Frag) : Sp := fun vs H Q _ => ∃ (a : Addr) (ns : List Int), vs = [.ref a] ∧ SqL K H a (ns.map V.int) ∧ ns.length ≤ 63 ∧ ∀ H', Q (.bl true) H'
abbrev nLa : List Str := ["_law_script", "_law_names_here", "_law_marks", "_law_tree_here", "_law_many", "_law_turned", "_law_nodes_here", "_law_texts", "_law_others", "_law_places", "_law_nowhere", "_law_place", "_law_drawn", "_law_one", "_law_pattern", "_law_k"]
theorem scLaw : FnScope nLa ["_law_script"] (defScope sLaw) := ⟨rfl, rfl, rfl, by decide +kernel, rfl, by decide +kernel, by decide +kernel⟩
set_option maxHeartbeats 16000000 in
theorem ok_law {CP C CL CB fI f f_is_letter f_name_end f_is_name f_node_at f_element_at f_elder_of f_read_test f_read_tests f_passes f_linked_places f_cell f_row f_names f_tree f_nodes f_fits f_aimed f_free f_written f_right f_no_place f_pinit f_pcall f_reach : Addr} {fdI fd fd_is_letter fd_name_end fd_is_name fd_node_at fd_element_at fd_elder_of fd_read_test fd_read_tests fd_passes fd_linked_places fd_cell fd_row fd_names fd_tree fd_nodes fd_fits fd_aimed fd_free fd_written fd_right fd_no_place fd_pinit fd_pcall fd_reach : FuncData}
    (B : Blt mg) (Z : Cst mg t1 t2 t3 t4 t5 t6) (T : Txt K mg CP) (M : Mk K CP f_pinit) (N : NoP K mg C fI fdI) (R : Errs K mg C CL CB) (F : Fun K "law" "law" sLaw f fd)
    (F_is_letter : Fun K "is_letter" "is_letter" sLetter f_is_letter fd_is_letter) (b_is_letter : Binds K fd_is_letter ["char"] []) (g_is_letter : mg "is_letter" = some (.ref f_is_letter))
    (F_name_end : Fun K "name_end" "name_end" sNameEnd f_name_end fd_name_end) (b_name_end : Binds K fd_name_end ["text", "start"] []) (g_name_end : mg "name_end" = some (.ref f_name_end))
    (F_is_name : Fun K "is_name" "is_name" sIsName f_is_name fd_is_name) (b_is_name : Binds K fd_is_name ["text"] []) (g_is_name : mg "is_name" = some (.ref f_is_name))
    (F_node_at : Fun K "node_at" "node_at" sNode f_node_at fd_node_at) (b_node_at : Binds K fd_node_at ["tree", "place"] []) (g_node_at : mg "node_at" = some (.ref f_node_at))
    (F_element_at : Fun K "element_at" "element_at" sElem f_element_at fd_element_at) (b_element_at : Binds K fd_element_at ["tree", "place"] []) (g_element_at : mg "element_at" = some (.ref f_element_at))
    (F_elder_of : Fun K "elder_of" "elder_of" sElder f_elder_of fd_elder_of) (b_elder_of : Binds K fd_elder_of ["tree", "place"] []) (g_elder_of : mg "elder_of" = some (.ref f_elder_of))
    (F_read_test : Fun K "_read_test" "_read_test" sTest f_read_test fd_read_test) (b_read_test : Binds K fd_read_test ["word"] []) (g_read_test : mg "_read_test" = some (.ref f_read_test))
    (F_read_tests : Fun K "_read_tests" "_read_tests" sTests f_read_tests fd_read_tests) (b_read_tests : Binds K fd_read_tests ["text"] []) (g_read_tests : mg "_read_tests" = some (.ref f_read_tests))
    (F_passes : Fun K "passes" "passes" sPasses f_passes fd_passes) (b_passes : Binds K fd_passes ["test", "kind", "mark"] []) (g_passes : mg "passes" = some (.ref f_passes))
    (F_linked_places : Fun K "_linked_places" "_linked_places" sLinked f_linked_places fd_linked_places) (b_linked_places : Binds K fd_linked_places ["tree", "place", "link"] []) (g_linked_places : mg "_linked_places" = some (.ref f_linked_places))
    (F_cell : Fun K "_law_cell" "_law_cell" sCell f_cell fd_cell) (b_cell : Binds K fd_cell ["_law_script", "_law_k"] []) (g_cell : mg "_law_cell" = some (.ref f_cell))
    (F_row : Fun K "_law_row" "_law_row" sRow f_row fd_row) (b_row : Binds K fd_row ["_law_cell_here", "_law_limits"] []) (g_row : mg "_law_row" = some (.ref f_row))
    (F_names : Fun K "_law_names" "_law_names" sNames f_names fd_names) (b_names : Binds K fd_names ["_law_cell_here", "_law_many"] []) (g_names : mg "_law_names" = some (.ref f_names))
    (F_tree : Fun K "_law_tree" "_law_tree" sTree f_tree fd_tree) (b_tree : Binds K fd_tree ["_law_cell_here", "_law_kinds", "_law_marks"] []) (g_tree : mg "_law_tree" = some (.ref f_tree))
    (F_nodes : Fun K "_law_nodes" "_law_nodes" sNodes f_nodes fd_nodes) (b_nodes : Binds K fd_nodes ["_law_tree_here"] []) (g_nodes : mg "_law_nodes" = some (.ref f_nodes))
    (F_fits : Fun K "_law_fits" "_law_fits" sFits f_fits fd_fits) (b_fits : Binds K fd_fits ["_law_nodes_here", "_law_tests", "_law_links", "_law_place", "_law_t"] []) (g_fits : mg "_law_fits" = some (.ref f_fits))
    (F_aimed : Fun K "_law_aimed" "_law_aimed" sAimed f_aimed fd_aimed) (b_aimed : Binds K fd_aimed ["_law_cell_here", "_law_nodes_here"] []) (g_aimed : mg "_law_aimed" = some (.ref f_aimed))
    (F_free : Fun K "_law_free" "_law_free" sFree f_free fd_free) (b_free : Binds K fd_free ["_law_cell_here", "_law_kinds", "_law_marks"] []) (g_free : mg "_law_free" = some (.ref f_free))
    (F_written : Fun K "_law_written" "_law_written" sWritten f_written fd_written) (b_written : Binds K fd_written ["_law_tests", "_law_links"] []) (g_written : mg "_law_written" = some (.ref f_written))
    (F_right : Fun K "_law_right" "_law_right" sRight f_right fd_right) (b_right : Binds K fd_right ["_law_pattern", "_law_tree_here", "_law_nodes_here", "_law_drawn", "_law_places"] []) (g_right : mg "_law_right" = some (.ref f_right))
    (F_no_place : Fun K "_law_no_place" "_law_no_place" sNo f_no_place fd_no_place) (b_no_place : Binds K fd_no_place ["_law_pattern", "_law_tree_here", "_law_place"] []) (g_no_place : mg "_law_no_place" = some (.ref f_no_place))
    (F_pinit : Fun K "__init__" "Pattern.__init__" sPInit f_pinit fd_pinit) (b_pinit : Binds K fd_pinit ["self", "text"] [])
    (F_pcall : Fun K "__call__" "Pattern.__call__" sPCall f_pcall fd_pcall) (b_pcall : Binds K fd_pcall ["self", "tree", "place"] []) (c_pcall : StX.CallO K CP f_pcall)
    (F_reach : Fun K "_reaches" "Pattern._reaches" sReach f_reach fd_reach) (b_reach : Binds K fd_reach ["self", "tree", "place", "last"] []) (m_reach : Meth K CP "_reaches" f_reach) :
    FnOk P w K mg base CX0 14 f fd ["_law_script"] (spLaw K) := by
  have G_cell : FnOk P w K mg base CX0 1 f_cell fd_cell ["_law_script", "_law_k"] (spCell K) := ok_cell B F_cell
  have G_names : FnOk P w K mg base CX0 2 f_names fd_names ["_law_cell_here", "_law_many"] spNames := ok_names B F_names F_row b_row g_row
  have G_tree : FnOk P w K mg base CX0 2 f_tree fd_tree ["_law_cell_here", "_law_kinds", "_law_marks"] (spTree K) := ok_tree B F_tree F_row b_row g_row
  have G_nodes : FnOk P w K mg base CX0 1 f_nodes fd_nodes ["_law_tree_here"] spNodes := ok_nodes B F_nodes
  have G_aimed : FnOk P w K mg base CX0 2 f_aimed fd_aimed ["_law_cell_here", "_law_nodes_here"] spAimed := ok_aimed B F_aimed F_row b_row g_row
  have G_free : FnOk P w K mg base CX0 2 f_free fd_free ["_law_cell_here", "_law_kinds", "_law_marks"] (spFree K) := ok_free B F_free F_row b_row g_row
  have G_written : FnOk P w K mg base CX0 1 f_written fd_written ["_law_tests", "_law_links"] spWritten := ok_written B F_written
  have G_pinit : FnOk P w K mg base CX0 6 f_pinit fd_pinit ["self", "text"] (spPInit CP) := ok_pinit B Z T F_pinit F_read_tests b_read_tests g_read_tests F_read_test b_read_test g_read_test F_is_name b_is_name g_is_name F_name_end b_name_end g_name_end F_is_letter b_is_letter g_is_letter
  have G_pcall : FnOk P w K mg base (L2.CX P w) 12 f_pcall fd_pcall ["self", "tree", "place"] (spPCall CP C) := ok_pcall B Z T N F_pcall F_reach b_reach m_reach F_linked_places b_linked_places g_linked_places F_passes b_passes g_passes F_elder_of b_elder_of g_elder_of F_element_at b_element_at g_element_at F_node_at b_node_at g_node_at
  have G_right : FnOk P w K mg base CX0 13 f_right fd_right ["_law_pattern", "_law_tree_here", "_law_nodes_here", "_law_drawn", "_law_places"] (spRight K CP) := ok_right B F_right G_pcall b_pcall c_pcall F_fits b_fits g_fits
  have G_no_place : FnOk P w K mg base CX0 13 f_no_place fd_no_place ["_law_pattern", "_law_tree_here", "_law_place"] (spNo CP) := ok_no B N R F_no_place G_pcall b_pcall c_pcall
  refine F.ok scLaw (fun vs H Q E h => ?_) (fun cdv A0 outer s H vs Q E hr h => ?_)
  · obtain ⟨a, ns, rfl, _⟩ := h; rfl
  · obtain ⟨a, ns, rfl, hS, hlen, q⟩ := h
    have hr1 : Room 1 _ := hr.mono (by decide)
    have hr2 : Room 2 _ := hr.mono (by decide)
    have hr7 : Room 7 _ := hr.mono (by decide)
    refine ⟨_, (pss_cons (ps_set (i := 1) scLaw.nd rfl (.inl rfl) (pe_call G_names hr2 (by rfl) g_names F_names.kp b_names .nil pass0 (pa_cons (pe_call G_cell hr1 (by rfl) g_cell F_cell.kp b_cell .nil pass0 (pa_cons (pv 0) (pa_cons pe_int pa_nil))) (pa_cons pe_int pa_nil))))
      (pss_cons (ps_set (i := 2) scLaw.nd rfl (.inl rfl) (pe_lst (pa_cons pe_str (pa_cons (pe_ix ix_list (pv 1) pe_int (fun _ _ => rfl)) (pa_cons (pe_ix ix_list (pv 1) pe_int (fun _ _ => rfl)) (pa_cons (pe_ix ix_list (pv 1) pe_int (fun _ _ => rfl)) pa_nil))))))
      (pss_cons (ps_set (i := 3) scLaw.nd rfl (.inr rfl) (pe_call G_tree hr2 (by rfl) g_tree F_tree.kp b_tree .nil pass0 (pa_cons (pe_call G_cell hr1 (by rfl) g_cell F_cell.kp b_cell .nil pass0 (pa_cons (pv 0) (pa_cons pe_int pa_nil))) (pa_cons (pe_slice sl_list (pv 1) po_none (po_some pe_int)) (pa_cons (pv 2) pa_nil)))))
      (pss_cons (ps_set (i := 4) scLaw.nd rfl (.inr rfl) (pe_callB call_len (by rfl) B.len PySem.boot_len (pa_cons (pe_ix ix_tup (pv 3) pe_int (fun _ _ => rfl)) pa_nil)))
      (pss_cons (ps_set (i := 5) scLaw.nd rfl (.inl rfl) (pe_tup (pa_cons (pe_ix ix_tup (pv 3) pe_int (fun _ _ => rfl)) (pa_cons (pe_ix ix_tup (pv 3) pe_int (fun _ _ => rfl)) (pa_cons (pe_callTy call_tuple_of (by rfl) B.tuple (by decide +kernel) (pa_cons (pe_lc (own := [("_law_k", 15)]) (g := gName 15) (tt := tYes) rfl scLaw.nd (pi_range1 (by rfl) B.range (pa_cons (pv 4) pa_nil)) (blkOk_by (N := nLa) (sc := defScope sLaw) (by decide +kernel)) (fun _ _ _ _ _ => (pg_name (i := 15) scLaw.nd rfl (.inl rfl))) (fun _ _ _ _ _ => pts_nil) (fun _ _ _ _ _ => (pe_ix (show IxR _ (rIxT K) from ix_tup) (pe_ix (show IxR _ (rIxT K) from ix_tup) (pv 3) pe_int (fun _ _ => rfl)) (pe_op op_sub (pe_op op_sub (pv 4) pe_int) (pv 15)) (fun _ _ => rfl)))) pa_nil)) pa_nil)))))
      (pss_cons (ps_asg (pe_call G_nodes hr1 (by rfl) g_nodes F_nodes.kp b_nodes .nil pass0 (pa_cons (pv 3) pa_nil)) (pg_lst rfl (pgs_cons (pg_name (i := 6) scLaw.nd rfl (.inr rfl)) (pgs_cons (pg_name (i := 7) scLaw.nd rfl (.inl rfl)) pgs_nil))))
      (pss_cons (ps_set (i := 8) scLaw.nd rfl (.inl rfl) (pe_ix ix_list (pe_call G_nodes hr1 (by rfl) g_nodes F_nodes.kp b_nodes .nil pass0 (pa_cons (pv 5) pa_nil)) pe_int (fun _ _ => rfl)))
      (pss_cons (ps_set (i := 9) scLaw.nd rfl (.inl rfl) (pe_callTy (call_list_dT rfl) (by rfl) B.list (by decide +kernel) (pa_cons (pv 6) pa_nil)))
      (pss_cons (ps_set (i := 10) scLaw.nd rfl (.inl rfl) (pe_op op_cat (pe_lc (own := [("_law_place", 11)]) (g := gName 11) (tt := tYes) rfl scLaw.nd (pi_list (pe_slice sl_list (pv 9) po_none (po_some pe_int))) (blkOk_by (N := nLa) (sc := defScope sLaw) (by decide +kernel)) (fun _ _ _ _ _ => (pg_name (i := 11) scLaw.nd rfl (.inl rfl))) (fun _ _ _ _ _ => pts_nil) (fun _ _ _ _ _ => (pe_op (show OpR _ _ (rCatA K) from op_catA) (pv 11) (pe_tup (pa_cons (pe_ix (show IxR _ (rIxT K) from ix_tup) (pe_dget (hu_of hr) (pv 6) (pv 11) (fun _ _ => rfl)) pe_int (fun _ _ => rfl)) pa_nil))))) (pv 7)))
      (pss_cons (ps_for (PassesOwn.never) rfl (pi_list (pe_slice sl_list (pv 7) po_none (po_some pe_int))) (pg_name (i := 11) scLaw.nd rfl (.inl rfl))
      (pss_one (ps_expr (pe_bm PySem.F.plainAttrs_list PySem.F.slot_list_append PySem.F.type_list_append mt_append (pv 10) (pa_cons (pe_op op_catA (pv 11) (pe_tup (pa_cons pe_int pa_nil))) pa_nil)))))
      (pss_cons (ps_set (i := 12) scLaw.nd rfl (.inl rfl) (pe_lst (pa_cons (pe_call G_aimed hr2 (by rfl) g_aimed F_aimed.kp b_aimed .nil pass0 (pa_cons (pe_call G_cell hr1 (by rfl) g_cell F_cell.kp b_cell .nil pass0 (pa_cons (pv 0) (pa_cons pe_int pa_nil))) (pa_cons (pv 6) pa_nil))) (pa_cons (pe_call G_aimed hr2 (by rfl) g_aimed F_aimed.kp b_aimed .nil pass0 (pa_cons (pe_call G_cell hr1 (by rfl) g_cell F_cell.kp b_cell .nil pass0 (pa_cons (pv 0) (pa_cons pe_int pa_nil))) (pa_cons (pv 6) pa_nil))) pa_nil))))
      (pss_cons (ps_expr (pe_bm PySem.F.plainAttrs_list PySem.F.slot_list_append PySem.F.type_list_append mt_append (pv 12) (pa_cons (pe_call G_free hr2 (by rfl) g_free F_free.kp b_free .nil pass0 (pa_cons (pe_call G_cell hr1 (by rfl) g_cell F_cell.kp b_cell .nil pass0 (pa_cons (pv 0) (pa_cons pe_int pa_nil))) (pa_cons (pe_op op_cat (pe_slice sl_list (pv 1) po_none (po_some pe_int)) (pe_lst (pa_cons pe_str pa_nil))) (pa_cons (pv 2) pa_nil)))) pa_nil)))
      (pss_cons (ps_for (PassesOwn.never) rfl (pi_list (pv 12)) (pg_name (i := 13) scLaw.nd rfl (.inl rfl))
      (pss_cons (ps_set (i := 14) scLaw.nd rfl (.inl rfl) (pe_make M G_pinit hr7 (by rfl) T.mgC b_pinit .nil pass0 (pa_cons (pe_call G_written hr1 (by rfl) g_written F_written.kp b_written .nil pass0 (pa_cons (pe_ix ix_list (pv 13) pe_int (fun _ _ => rfl)) (pa_cons (pe_ix ix_list (pv 13) pe_int (fun _ _ => rfl)) pa_nil))) pa_nil)))
       (pss_cons (ps_if (pt_not (pt_val (pe_call G_right hr (by rfl) g_right F_right.kp b_right .nil pass0 (pa_cons (pv 14) (pa_cons (pv 3) (pa_cons (pv 6) (pa_cons (pv 13) (pa_cons (pv 9) pa_nil))))))))
       (pss_one (ps_ret pe_bl))
       pss_nil)
       (pss_cons (ps_if (pt_not (pt_val (pe_call G_right hr (by rfl) g_right F_right.kp b_right .nil pass0 (pa_cons (pv 14) (pa_cons (pv 5) (pa_cons (pv 8) (pa_cons (pv 13) (pa_cons (pe_callTy (call_list_dT rfl) (by rfl) B.list (by decide +kernel) (pa_cons (pv 8) pa_nil)) pa_nil))))))))
       (pss_one (ps_ret pe_bl))
       pss_nil)
       (pss_cons (ps_if (pt_not (pt_val (pe_call G_right hr (by rfl) g_right F_right.kp b_right .nil pass0 (pa_cons (pv 14) (pa_cons (pv 3) (pa_cons (pv 6) (pa_cons (pv 13) (pa_cons (pe_slice sl_list (pv 9) (po_some (pe_op op_sub (pe_callB call_len (by rfl) B.len PySem.boot_len (pa_cons (pv 9) pa_nil)) pe_int)) po_none) pa_nil))))))))
       (pss_one (ps_ret pe_bl))
       pss_nil)
       (pss_one (ps_for (PassesOwn.never) rfl (pi_list (pv 10)) (pg_name (i := 11) scLaw.nd rfl (.inl rfl))
       (pss_one (ps_if (pt_not (pt_val (pe_call G_no_place hr (by rfl) g_no_place F_no_place.kp b_no_place .nil pass0 (pa_cons (pv 14) (pa_cons (pv 3) (pa_cons (pv 11) pa_nil))))))
        (pss_one (ps_ret pe_bl))
        pss_nil)))))))))
      (pss_one (ps_ret pe_bl))))))))))))))), ?_⟩
    refine ⟨.ref a, rfl, a, ns, 0, rfl, hS, hlen, by decide, fun c0 => ⟨c0, rfl, fun H1 pN zs s1 nN hpN hz6 hzn => ?_⟩⟩
    obtain ⟨z0, z1, z2, z3, z4, z5, rfl⟩ := six_of hz6
    have n0 := hzn z0 (by simp); have n1 := hzn z1 (by simp); have n2 := hzn z2 (by simp); have n3 := hzn z3 (by simp); have n4 := hzn z4 (by simp); have n5 := hzn z5 (by simp)
    clear hzn hz6
    refine ⟨.ref pN, rfl, pN, _, 4, .str z4, rfl, rfl, SqL.of hpN, atI_nat (j := 4) rfl, .ref pN, rfl, pN, _, 0, .str z0, rfl, rfl, SqL.of hpN, atI_nat (j := 0) rfl, .ref pN, rfl, pN, _, 5, .str z5, rfl, rfl, SqL.of hpN, atI_nat (j := 5) rfl, by show 4 ≤ sizeLine; decide, fun pM nM => ?_⟩
    have sM := same_new nM (o := .lst [.str (Str.ofString ""), .str z4, .str z0, .str z5])
    have hpM : (upd H1 pM (.lst [.str (Str.ofString ""), .str z4, .str z0, .str z5])) pM = some (.lst ([Str.ofString "", z4, z0, z5].map V.str)) := upd_same
    have hpN2 := sM _ _ hpN
    have sA := s1.trans sM
    generalize upd H1 pM (.lst [.str (Str.ofString ""), .str z4, .str z0, .str z5]) = HA at sM hpM hpN2 sA ⊢
    have mk4 : ∀ z ∈ [Str.ofString "", z4, z0, z5], Mark z := fun z hz => by
      simp only [List.mem_cons, List.not_mem_nil, or_false] at hz
      rcases hz with rfl | rfl | rfl | rfl
      · exact .inl tl_empty
      · exact .inr n4
      · exact .inr n0
      · exact .inr n5
    refine ⟨.ref a, rfl, a, ns, 1, rfl, sA.seq hS, hlen, by decide, fun c1 => ⟨.ref pN, rfl, 3, rfl, pN, _, rfl, SqL.of hpN2, fun l3 nl3 => ⟨.ref pM, rfl, c1, l3, pM, [z0, z1, z2], [Str.ofString "", z4, z0, z5], rfl, upd_same, rfl, fun z hz => ?_, same_new nl3 _ _ hpM, rfl, mk4, fun H2 v k m cs s2 hT hsz hgd => ?_⟩⟩⟩
    · simp only [List.mem_cons, List.not_mem_nil, or_false] at hz
      rcases hz with rfl | rfl | rfl <;> assumption
    have sAB := (same_new nl3 (o := .lst ([z0, z1, z2].map V.str))).trans s2
    have sB := sA.trans sAB
    have hpN3 := sAB _ _ hpN2
    have hpM3 := sAB _ _ hpM
    clear sAB s2 nl3 sA sM nM s1
    obtain ⟨ta, tb, vs, rfl, h1, h2, hall⟩ := hT.el_inv
    have hvl := hall.1
    have hcl : cs.length ≤ 199 := by have := szs_len cs; simp only [sz] at hsz; omega
    refine ⟨.ref ta, rfl, ta, _, 2, .ref tb, rfl, rfl, SqT.of h1, atI_nat (j := 2) rfl, .ref tb, vs.length, rfl, .inr ⟨_, SqT.of h2, rfl⟩, ?_⟩
    refine ⟨.ref ta, rfl, ta, _, 0, .str k, rfl, rfl, SqT.of h1, atI_nat (j := 0) rfl, .ref ta, rfl, ta, _, 1, .str m, rfl, rfl, SqT.of h1, atI_nat (j := 1) rfl, .int (vs.length : Int), rfl, (vs.length : Int), rfl, by omega, by omega, fun Dc hDc => ?_⟩
    rw [Int.toNat_natCast]
    refine lc_range (lo := 0) (n := vs.length) (fun i H' => H' Dc = some (.lst (vs.reverse.take i)) ∧ Same H2 H') ⟨upd_same, same_new hDc⟩ ?_ ?_
    · rintro i H' hi ⟨hd, sm⟩
      have hw : vs[vs.length - 1 - i]? = some (vs[vs.length - 1 - i]'(by omega)) := List.getElem?_eq_getElem _
      have hr2 : vs.reverse[i]? = some (vs[vs.length - 1 - i]'(by omega)) := by rw [List.getElem?_reverse hi]; exact hw
      generalize vs[vs.length - 1 - i]'(by omega) = w' at hw hr2
      refine ⟨rfl, .ref ta, rfl, ta, _, 2, .ref tb, rfl, rfl, SqT.of (sm _ _ h1), atI_nat (j := 2) rfl, .int (vs.length : Int), rfl, _, 1, rfl, rfl, .int (0 + (i : Int)), rfl, _, _, rfl, rfl, tb, vs, _, w', rfl, rfl, SqT.of (sm _ _ h2), at_of (j := vs.length - 1 - i) (by omega) hw, ?_⟩
      exact ⟨_, hd, small1000 (by rw [List.length_take]; omega), by rw [upd_same, List.take_add_one, hr2]; rfl, same_at sm hDc⟩
    rintro H3 ⟨hd3, s3⟩
    rw [List.take_of_length_le (by rw [List.length_reverse]; exact Nat.le_refl _)] at hd3
    refine ⟨Dc, _, rfl, .inl ⟨SqL.of hd3, fun tq ntq => ⟨by show 3 ≤ sizeLine; decide, fun tv ntv => ?_⟩⟩⟩
    have s3q := same_new ntq (o := .tup vs.reverse)
    have s3v := same_new ntv (o := .tup [.str k, .str m, .ref tq])
    have s24 := s3.trans (s3q.trans s3v)
    have rev := (hall.mono (Same.tups s24)).rev
    have hTv : IsT (upd (upd H3 tq (.tup vs.reverse)) tv (.tup [.str k, .str m, .ref tq])) (.ref tv) (.el k m cs.reverse) := .el upd_same (s3v _ _ upd_same) rev.1 rev.2
    have hT4 := hT.mono (Same.tups s24)
    have sD := sB.trans s24
    have hpN4 := s24 _ _ hpN3
    have hpM4 := s24 _ _ hpM3
    generalize upd (upd H3 tq (.tup vs.reverse)) tv (.tup [.str k, .str m, .ref tq]) = H4 at s24 hTv hT4 sD hpN4 hpM4 ⊢
    have hszr : sz (.el k m cs.reverse) ≤ 200 := by simp only [sz, szs_reverse] at hsz ⊢; exact hsz
    clear rev s3v s3q s3 hd3 hDc ntq hall
    refine ⟨.ref ta, rfl, .ref ta, .el k m cs, k, m, cs, rfl, rfl, hT4, hsz, fun H5 a5 D X kvs us ps s5 ha5 hD5 snd5 cov5 hkl5 hX5 hpl5 htx5 hul5 nD5 nX5 => ?_⟩
    refine ⟨a5, _, rfl, SqL.of ha5, rfl, .ref D, _, rfl, .ref X, _, rfl, rfl, ?_⟩
    refine ⟨.ref tv, rfl, .ref tv, .el k m cs.reverse, k, m, cs.reverse, rfl, rfl, hTv.mono (Same.tups s5), hszr, fun H6 a6 D2 X2 kvs2 us2 ps2 s6 ha6 hD6 snd6 cov6 hkl6 hX6 hpl6 htx6 hul6 nD6 nX6 => ?_⟩
    refine ⟨a6, _, 0, .ref D2, rfl, rfl, SqL.of ha6, atI_nat (j := 0) rfl, ?_⟩
    have NA : Noted H6 D (.el k m cs) kvs := (Noted.mk hD5 snd5 cov5).same s6
    have NB : Noted H6 D2 (.el k m cs.reverse) kvs2 := ⟨hD6, snd6, cov6⟩
    refine ⟨.ref D, rfl, D, kvs, rfl, Rd.of NA.dict, fun L bs nL hkeys => ?_⟩
    obtain ⟨pk, hpk, hke, hka, hkn⟩ := keys_places NA hkeys
    have s67 := same_new nL (o := .lst (bs.map V.ref))
    have hL : (upd H6 L (.lst (bs.map V.ref))) L = some (.lst (bs.map V.ref)) := upd_same
    have s47 := s5.trans (s6.trans s67)
    have NA7 := NA.same s67
    have NB7 := NB.same s67
    have hX7 := s67 _ _ (s6 _ _ hX5)
    have hpl7 := hpl5.same (s6.trans s67)
    have hpk7 := hpk.same s67
    have sE := sD.trans s47
    have hT7 := hT4.mono (Same.tups s47)
    have hTv7 := hTv.mono (Same.tups s47)
    have hpN7 := s47 _ _ hpN4
    have hpM7 := s47 _ _ hpM4
    generalize upd H6 L (.lst (bs.map V.ref)) = H7 at s67 hL s47 NA7 NB7 hX7 hpl7 hpk7 sE hT7 hTv7 hpN7 hpM7 ⊢
    clear NA NB hkeys hpk hpl5 hX5 hT4 hTv hpN4 hpM4 sD s6 s5 s67 s47 ha5 ha6 hD5 hD6 snd5 snd6 cov5 cov6 hX6 hpl6 htx6 hul6 nD6 nX6 nD5 nX5
    -- nowhere
    obtain ⟨q3, hq3, hm3⟩ := hpk7.cut none (some 3)
    have hc3 : (cutV (bs.map V.ref) none (some 3)).length ≤ 3 := cut_len _ 3
    refine ⟨.ref L, rfl, 3, rfl, L, _, rfl, SqL.of hL, fun l4 n4 => ⟨l4, rfl, ⟨_, SqL.of upd_same⟩, fun D3 nD3 => ?_⟩⟩
    generalize cutV (bs.map V.ref) none (some 3) = x3 at hq3 hc3 nD3 ⊢
    have s78 := same_new n4 (o := .lst x3)
    have h48 : (upd H7 l4 (.lst x3)) l4 = some (.lst x3) := upd_same
    generalize upd H7 l4 (.lst x3) = H8 at s78 h48 nD3 ⊢
    refine lc_list (K := K) (a := l4) (xs := x3) (fun i H' => ∃ (u3 : List V) (p3 : List (List Int)), H' D3 = some (.lst u3) ∧ PlacesAt H' u3 p3 ∧ (∀ q ∈ p3, NoEl (.el k m cs) q) ∧ u3.length = i ∧ Same H8 H') ⟨[], [], upd_same, PlacesAt.nil, fun q h => absurd h List.not_mem_nil, rfl, same_new nD3⟩ (fun i H' _ ⟨_, _, _, _, _, _, s⟩ => SqL.of (s _ _ h48)) ?_ ?_
    · rintro i u H' hi ⟨u3, p3, hd, hpl, hno, hul, sm⟩
      have hi3 : i < 3 := by have := (List.getElem?_eq_some_iff.mp hi).1; omega
      have s7 := s78.trans sm
      obtain ⟨qn, qb, hqn, rfl, hqb⟩ := (hq3.same s7).get hi
      obtain ⟨ke, me, ce, hel⟩ := hke qn (hm3 _ (List.mem_of_getElem? hqn))
      have hnl : qn.length ≤ 200 := by have := atP_sz hel; omega
      obtain ⟨iv, hg, ib, ev, rfl, hib, hev⟩ := (NA7.same s7).get hel hqb
      refine ⟨rfl, .ref qb, rfl, .ref D, rfl, .ref qb, rfl, D, .ref ib, rfl, hg, ib, _, 3, .int (ce.length : Int), rfl, rfl, SqT.of hib, atI_nat (j := 3) rfl, by show 1 ≤ sizeLine; decide, fun t1 nt1 => ?_⟩
      have st := same_new nt1 (o := .tup [.int (ce.length : Int)])
      refine catA (st _ _ hqb) upd_same (by rw [List.length_map]; show qn.length + 1 ≤ 1000; omega) fun H9 p9 s9 hp9 => ?_
      have s9' := st.trans s9
      have hd9 := s9' _ _ hd
      refine ⟨u3, hd9, small1000 (by omega), u3 ++ [.ref p9], p3 ++ [qn ++ [(ce.length : Int)]], upd_same, ?_, fun q hq => ?_, by rw [List.length_append, hul]; rfl, same_at (sm.trans s9') nD3⟩
      · have tt : ∀ c ys, H9 c = some (.tup ys) → upd H9 D3 (.lst (u3 ++ [.ref p9])) c = some (.tup ys) := SameT.lst hd9
        exact ((hpl.same s9').tups tt).snoc (tt _ _ (by rw [hp9, List.map_append]; rfl))
      · rcases List.mem_append.mp hq with h | h
        · exact hno q h
        · rw [List.mem_singleton.mp h]; exact noel_behind hel
    rintro H9 ⟨u3, p3, hd9, hpl9, hno9, hul9, s89⟩
    have s79 := s78.trans s89
    have hX9 := s79 _ _ hX7
    refine ⟨.ref X, rfl, D3, X, _, _, rfl, rfl, hd9, hX9, by rw [sizeLine_eq]; omega, fun W nW => ?_⟩
    have s9A := same_new nW (o := .lst (u3 ++ us))
    have hW : (upd H9 W (.lst (u3 ++ us))) W = some (.lst (u3 ++ us)) := upd_same
    have plW := (hpl9.app (hpl7.same s79)).same s9A
    have noW : ∀ q ∈ p3 ++ ps, NoEl (.el k m cs) q := fun q hq => by
      rcases List.mem_append.mp hq with h | h
      · exact hno9 q h
      · obtain ⟨z, hz⟩ := htx5 q h; exact noel_txt hz
    have nW7 : H7 W = none := s79.free nW
    have lW : (u3 ++ us).length ≤ 203 := by rw [List.length_append]; omega
    have s7A := s79.trans s9A
    generalize upd H9 W (.lst (u3 ++ us)) = HB at s9A hW plW s7A ⊢
    generalize u3 ++ us = ws0 at hW plW lW
    generalize p3 ++ ps = qs0 at plW noW
    -- below texts
    have hXB := s7A _ _ hX7
    obtain ⟨q2, hq2, hm2⟩ := (hpl7.same s7A).cut none (some 2)
    have hc2 : (cutV us none (some 2)).length ≤ 2 := cut_len _ 2
    refine ⟨.ref X, rfl, 2, rfl, X, _, rfl, SqL.of hXB, fun l5 n5 => ?_⟩
    generalize cutV us none (some 2) = x2 at hq2 hc2 ⊢
    have sBC := same_new n5 (o := .lst x2)
    have h5C : (upd HB l5 (.lst x2)) l5 = some (.lst x2) := upd_same
    have hWC := sBC _ _ hW
    have n5W : l5 ≠ W := (ne_of_none hW n5).symm
    have plC := plW.same sBC
    have hq2C := hq2.same sBC
    have s7C := s7A.trans sBC
    generalize upd HB l5 (.lst x2) = HC at sBC h5C hWC plC hq2C s7C ⊢
    refine ⟨l5, rfl, ⟨_, SqL.of h5C⟩, for_list (K := K) (a := l5) (xs := x2) (fun i σ H' => ∃ (y11 : Option V) (ws : List V) (qs : List (List Int)), σ = [some (.ref a), some (.ref pN), some (.ref pM), some (.ref ta), some (.int (vs.length : Int)), some (.ref tv), some (.ref D), some (.ref X), some (.ref D2), some (.ref L), some (.ref W), y11, none, none, none, none] ∧ Same H7 H' ∧ SameT HC H' ∧ H' l5 = some (.lst x2) ∧ H' W = some (.lst ws) ∧ PlacesAt H' ws qs ∧ (∀ q ∈ qs, NoEl (.el k m cs) q) ∧ ws.length ≤ 203 + i)
      ⟨none, ws0, qs0, rfl, s7C, SameT.refl _, h5C, hWC, plC, noW, lW⟩ (fun i σ H' _ ⟨_, _, _, _, _, _, h, _⟩ => SqL.of h) ?_ ?_⟩
    · rintro i u σ H' hi ⟨y11, ws, qs, rfl, sm, tm, h5, hw, hpl, hno, hwl⟩
      have hi3 : i < 2 := by have := (List.getElem?_eq_some_iff.mp hi).1; omega
      obtain ⟨qn, qb, hqn, rfl, hqb⟩ := hq2C.get hi
      obtain ⟨z, hz⟩ := htx5 qn (hm2 _ (List.mem_of_getElem? hqn))
      have hnl : qn.length ≤ 200 := by have := atP_sz hz; omega
      refine ⟨.ref W, rfl, .inl ⟨rfl, _, SqL.of hw⟩, .ref qb, rfl, by show 1 ≤ sizeLine; decide, fun t1 nt1 => ?_⟩
      have st := same_new nt1 (o := .tup [.int 0])
      refine catA (st _ _ (tm _ _ hqb)) upd_same (by rw [List.length_map]; show qn.length + 1 ≤ 1000; omega) fun H9' p9 s9 hp9 => ?_
      have s9' := st.trans s9
      have hw9 := s9' _ _ hw
      have tt : SameT H9' (upd H9' W (.lst (ws ++ [.ref p9]))) := SameT.lst hw9
      refine ⟨W, _, .ref p9, rfl, rfl, hw9, small1000 (by omega), ?_⟩
      refine ⟨_, ws ++ [.ref p9], qs ++ [qn ++ [(0 : Int)]], rfl, same_at (sm.trans s9') nW7, tm.trans ((Same.tups s9').trans tt), by rw [upd_ne n5W]; exact s9' _ _ h5, upd_same, ?_, fun q hq => ?_, by rw [List.length_append]; show _ + 1 ≤ _; omega⟩
      · exact ((hpl.same s9').tups tt).snoc (tt _ _ (by rw [hp9, List.map_append]; rfl))
      · rcases List.mem_append.mp hq with h | h
        · exact hno q h
        · rw [List.mem_singleton.mp h]; exact noel_below hz 0
    rintro σ HD ⟨y11, ws, qs, rfl, s7D, tm, _, hwD, plD, noD, lwD⟩
    have lwD' : ws.length ≤ 210 := by omega
    clear tm h5C hWC plC hq2C s7C sBC n5W hq2 hm2 hc2 hXB hW plW noW lW s9A nW hX9 hpl9 hno9 hd9 n5
    -- the patterns
    have s0D := sE.trans s7D
    have hroot : ∃ k' m' cs', (K09.T.el k m cs) = .el k' m' cs' := ⟨k, m, cs, rfl⟩
    refine ⟨.ref a, rfl, a, ns, 2, rfl, s0D.seq hS, hlen, by decide, fun c2 => ⟨.ref D, rfl, c2, D, .el k m cs, kvs, rfl, NA7.same s7D, hkl5, hsz, hgd, hroot, fun HE pa aa ba xa ra sDE npa naa nba hpa hda => ?_⟩⟩
    have s7E := s7D.trans sDE
    refine ⟨.ref a, rfl, a, ns, 3, rfl, (s0D.trans sDE).seq hS, hlen, by decide, fun c3 => ⟨.ref D, rfl, c3, D, .el k m cs, kvs, rfl, NA7.same s7E, hkl5, hsz, hgd, hroot, fun HF pb ab bb xb rb sEF npb nab nbb hpb hdb => ⟨by show 2 ≤ sizeLine; decide, fun LD nLD => ?_⟩⟩⟩
    have s7F := s7E.trans sEF
    have sFG := same_new nLD (o := .lst [.ref pa, .ref pb])
    have hLD : (upd HF LD (.lst [.ref pa, .ref pb])) LD = some (.lst [.ref pa, .ref pb]) := upd_same
    have s7G := s7F.trans sFG
    have hpaF := sEF _ _ hpa
    have hdaF := hda.same sEF
    generalize upd HF LD (.lst [.ref pa, .ref pb]) = HG at sFG hLD s7G ⊢
    refine ⟨.ref LD, rfl, .inl ⟨rfl, _, SqL.of hLD⟩, .ref a, rfl, a, ns, 4, rfl, (sE.trans s7G).seq hS, hlen, by decide, fun c4 => ⟨.ref pN, rfl, 4, rfl, pN, _, rfl, SqL.of (s7G _ _ hpN7), fun l6 n6 => ⟨by show 1 ≤ sizeLine; decide, fun l7 n7 => ⟨l6, l7, _, _, rfl, rfl, same_new n7 _ _ upd_same, upd_same, by show 4 + 1 ≤ sizeLine; decide, fun l8 n8 => ?_⟩⟩⟩⟩
    have sGH := (same_new n6 (o := .lst ([z0, z1, z2, z3].map V.str))).trans ((same_new n7 (o := .lst [.str (Str.ofString "*")])).trans (same_new n8 (o := .lst ([z0, z1, z2, z3, starS].map V.str))))
    have hl8 : (upd (upd (upd HG l6 (.lst ([z0, z1, z2, z3].map V.str))) l7 (.lst [.str (Str.ofString "*")])) l8 (.lst ([z0, z1, z2, z3, starS].map V.str))) l8 = some (.lst ([z0, z1, z2, z3, starS].map V.str)) := upd_same
    refine ⟨.ref pM, rfl, c4, l8, pM, [z0, z1, z2, z3, starS], [Str.ofString "", z4, z0, z5], rfl, hl8, rfl, fun z hz => ?_, sGH _ _ (s7G _ _ hpM7), rfl, mk4, fun HI pc ac bc xc rc sHI npc nac nbc hpc hdc => ?_⟩
    · simp only [List.mem_cons, List.not_mem_nil, or_false] at hz
      rcases hz with rfl | rfl | rfl | rfl | rfl
      · exact .inr n0
      · exact .inr n1
      · exact .inr n2
      · exact .inr n3
      · exact .inl rfl
    have sGI := sGH.trans sHI
    have hLDI := sGI _ _ hLD
    have epc : pc ≠ LD := fun e => by have h := sGH _ _ hLD; rw [← e] at h; exact nomatch h.symm.trans npc
    have eac : ac ≠ LD := fun e => by have h := sGH _ _ hLD; rw [← e] at h; exact nomatch h.symm.trans nac
    have ebc : bc ≠ LD := fun e => by have h := sGH _ _ hLD; rw [← e] at h; exact nomatch h.symm.trans nbc
    clear hl8 sGH n6 n7 n8 npc nac nbc
    refine ⟨LD, _, .ref pc, rfl, rfl, hLDI, small1000 (by show 2 ≤ 1000; decide), ?_⟩
    have sFI := sFG.trans sGI
    have sFJ : Same HF (upd HI LD (.lst ([.ref pa, .ref pb] ++ [.ref pc]))) := same_at sFI nLD
    have hLDJ : (upd HI LD (.lst ([.ref pa, .ref pb] ++ [.ref pc]))) LD = some (.lst [.ref pa, .ref pb, .ref pc]) := upd_same
    have hpcJ : (upd HI LD (.lst ([.ref pa, .ref pb] ++ [.ref pc]))) pc = some (.lst [.ref ac, .ref bc]) := by rw [upd_ne epc]; exact hpc
    have hdcJ : Drawn (upd HI LD (.lst ([.ref pa, .ref pb] ++ [.ref pc]))) ac bc xc rc := by
      obtain ⟨⟨u0, e1, e2⟩, e3, e4, e5, e6⟩ := hdc
      exact ⟨⟨u0, by rw [upd_ne eac]; exact e1, e2.tups (SameT.lst hLDI)⟩, by rw [upd_ne ebc]; exact e3, e4, e5, e6⟩
    have s7J := s7F.trans sFJ
    have hpaJ := sFJ _ _ hpaF
    have hdaJ := hdaF.same sFJ
    have hpbJ := sFJ _ _ hpb
    have hdbJ := hdb.same sFJ
    have sDJ := (sDE.trans sEF).trans sFJ
    generalize upd HI LD (.lst ([.ref pa, .ref pb] ++ [.ref pc])) = HJ at sFJ hLDJ hpcJ hdcJ s7J hpaJ hdaJ hpbJ hdbJ sDJ ⊢
    have hwJ := sDJ _ _ hwD
    have plJ := plD.same sDJ
    have NAJ := NA7.same s7J
    have NBJ := NB7.same s7J
    have hTJ := hT7.mono (Same.tups s7J)
    have hTvJ := hTv7.mono (Same.tups s7J)
    have hLJ := s7J _ _ hL
    have hpkJ := hpk7.same s7J
    have hone : ∀ (i : Nat) (u : V), ([.ref pa, .ref pb, .ref pc] : List V)[i]? = some u → ∃ p a b x rs, u = .ref p ∧ HJ p = some (.lst [.ref a, .ref b]) ∧ Drawn HJ a b x rs := fun i u hi => by
      match i, hi with
      | 0, hi => cases hi; exact ⟨pa, aa, ba, xa, ra, rfl, hpaJ, hdaJ⟩
      | 1, hi => cases hi; exact ⟨pb, ab, bb, xb, rb, rfl, hpbJ, hdbJ⟩
      | 2, hi => cases hi; exact ⟨pc, ac, bc, xc, rc, rfl, hpcJ, hdcJ⟩
      | i + 3, hi => simp at hi
    clear hpaJ hdaJ hpbJ hdbJ hpcJ hdcJ sDJ sFJ hLDI sGI sHI hpc hdc sFI sFG sEF hpb hdb hpaF hdaF hpa hda sDE s7F s7E s7G s0D hpN7 hpM7 hT7 hTv7 NA7 NB7 hpk7 hL plD hwD hX7 hpl7 hLD nLD npa naa nba npb nab nbb epc eac ebc s7D
    refine ⟨.ref LD, rfl, LD, rfl, ⟨_, SqL.of hLDJ⟩, for_list (K := K) (a := LD) (xs := [.ref pa, .ref pb, .ref pc]) (fun i σ H' => ∃ (y11 y13 y14 : Option V), σ = [some (.ref a), some (.ref pN), some (.ref pM), some (.ref ta), some (.int (vs.length : Int)), some (.ref tv), some (.ref D), some (.ref X), some (.ref D2), some (.ref L), some (.ref W), y11, some (.ref LD), y13, y14, none] ∧ Same HJ H')
      ⟨y11, none, none, rfl, Same.refl _⟩ (fun i σ H' _ ⟨_, _, _, _, s⟩ => SqL.of (s _ _ hLDJ)) ?_ ?_⟩
    · rintro i u σ H' hi ⟨y11, y13, y14, rfl, sJ⟩
      obtain ⟨p, da, db, x, rs, rfl, hp, hd⟩ := hone i u hi
      have hp' := sJ _ _ hp
      have hd' := hd.same sJ
      obtain ⟨tk1, tk2⟩ := toks_ok hd.gx hd.gr
      have h3 := hd.len
      refine ⟨.ref p, rfl, p, _, 0, .ref da, rfl, rfl, SqL.of hp', atI_nat (j := 0) rfl, .ref p, rfl, p, _, 1, .ref db, rfl, rfl, SqL.of hp', atI_nat (j := 1) rfl, da, db, x, rs, rfl, hd', fun z hz xp dx nx ndx hne => ?_⟩
      have hzl : z.length ≤ 1000 := by
        rw [← tl_len, hz]
        have := textL_len hd.gx rs hd.gr
        omega
      refine ⟨xp, dx, z, toks x rs, x :: rs.map (·.2), rs.map (·.1), rfl, upd_same, by simp [toks], by have := tail_len rs; show (tail rs).length + 1 ≤ 20; omega, tk1, by rw [join_toks]; exact hz, tk2, by rw [List.length_cons, List.length_map]; omega, hzl, fun H2' hk2 hP => ⟨rfl, ?_⟩⟩
      have sJK : Same H' H2' := fun b o hb => hk2 b o (fun e => by subst e; rw [nx] at hb; cases hb) (by rw [upd_ne (fun e => by subst e; rw [nx] at hb; cases hb), upd_ne (fun e => by subst e; rw [ndx] at hb; cases hb)]; exact hb)
      have sK := sJ.trans sJK
      -- asked of the tree
      refine ⟨.ref xp, rfl, .ref ta, rfl, .ref D, rfl, .ref p, rfl, .ref L, rfl, xp, D, p, da, db, L, .ref ta, .el k m cs, kvs, x, rs, _, pk, rfl, hP, hTJ.mono (Same.tups sK), hsz, NAJ.same sK, sK _ _ hp, hd.same sK, SqL.of (sK _ _ hLJ), hpkJ.same sK, hke, fun H3' s3' => ⟨true, rfl, iteF ?_⟩⟩
      have sK3 := sK.trans s3'
      have hP3 := hP.same s3'
      -- of the other
      refine ⟨.ref xp, rfl, .ref tv, rfl, .ref D2, rfl, .ref p, rfl, .ref D2, rfl, D2, kvs2, rfl, Rd.of (NBJ.same sK3).dict, fun Lo bo nLo hko => ?_⟩
      obtain ⟨po, hpo, hoe, _, _⟩ := keys_places (NBJ.same sK3) hko
      have sLo := same_new nLo (o := .lst (bo.map V.ref))
      have sK4 := sK3.trans sLo
      refine ⟨xp, D2, p, da, db, Lo, .ref tv, .el k m cs.reverse, kvs2, x, rs, _, po, rfl, hP3.same sLo, hTvJ.mono (Same.tups sK4), hszr, NBJ.same sK4, sK4 _ _ hp, hd.same sK4, SqL.of upd_same, hpo.same sLo, hoe, fun H5' s5' => ⟨true, rfl, iteF ?_⟩⟩
      have sK5 := sK4.trans s5'
      have hP5 := (hP3.same sLo).same s5'
      -- of the first again
      obtain ⟨qc, hqc, hmc⟩ := (hpkJ.same sK5).cut (some ((((bs.map V.ref).length : Nat) : Int) - 2)) none
      refine ⟨.ref xp, rfl, .ref ta, rfl, .ref D, rfl, .ref p, rfl, .ref L, rfl, .ref L, rfl, .ref L, (bs.map V.ref).length, rfl, .inl ⟨_, SqL.of (sK5 _ _ hLJ), rfl⟩, _, 2, rfl, rfl, _, rfl, L, _, rfl, SqL.of (sK5 _ _ hLJ), fun l9 n9 => ?_⟩
      have s56 := same_new n9 (o := .lst (cutV (bs.map V.ref) (some ((((bs.map V.ref).length : Nat) : Int) - 2)) none))
      have sK6 := sK5.trans s56
      refine ⟨xp, D, p, da, db, l9, .ref ta, .el k m cs, kvs, x, rs, _, qc, rfl, hP5.same s56, hTJ.mono (Same.tups sK6), hsz, NAJ.same sK6, sK6 _ _ hp, hd.same sK6, SqL.of upd_same, hqc.same s56, fun q hq => hke q (hmc q hq), fun H7' s7' => ⟨true, rfl, iteF ?_⟩⟩
      have sK7 := sK6.trans s7'
      have hP7 := (hP5.same s56).same s7'
      have hw7 := sK7 _ _ hwJ
      have pl7 := plJ.same sK7
      -- nowhere
      refine ⟨.ref W, rfl, W, rfl, ⟨_, SqL.of hw7⟩, for_list (K := K) (a := W) (xs := ws) (fun i σ H'' => ∃ y11, σ = [some (.ref a), some (.ref pN), some (.ref pM), some (.ref ta), some (.int (vs.length : Int)), some (.ref tv), some (.ref D), some (.ref X), some (.ref D2), some (.ref L), some (.ref W), y11, some (.ref LD), some (.ref p), some (.ref xp), none] ∧ Same H7' H'')
        ⟨y11, rfl, Same.refl _⟩ (fun i σ H'' _ ⟨_, _, s⟩ => SqL.of (s _ _ hw7)) ?_ ?_⟩
      · rintro j u2 σ H8' hj ⟨y11', rfl, s8⟩
        obtain ⟨qn, qb, hqn, rfl, hqb⟩ := pl7.get hj
        have sK8 := sK7.trans s8
        refine ⟨.ref xp, rfl, .ref ta, rfl, .ref qb, rfl, xp, qb, .ref ta, .el k m cs, x :: rs.map (·.2), rs.map (·.1), qn, rfl, hP7.same s8, hTJ.mono (Same.tups sK8), hsz, s8 _ _ hqb, Nat.succ_le_succ (Nat.zero_le _), by rw [List.length_cons, List.length_map]; omega, by rw [List.length_cons, List.length_map, List.length_map], fun l hl => ?_, noD qn (List.mem_of_getElem? hqn), fun H9' s9' => ⟨true, rfl, iteF ⟨_, rfl, s8.trans s9'⟩⟩⟩
        obtain ⟨r, hr', rfl⟩ := List.mem_map.mp hl
        exact (hd.gr r hr').1
      · rintro σ H8' ⟨y11', rfl, s8⟩
        exact ⟨_, _, _, rfl, sK7.trans s8⟩
    · rintro σ H' ⟨_, _, _, rfl, sJ⟩
      exact q H'
end
end K09

set_option maxRecDepth 100000
set_option maxHeartbeats 4000000
namespace K09
open PySem PySem.Spec PyProof.Rows L2
theorem all_mk {l : PySem.W.OpenLaw} {w : World} {K : PySem.W.Frag} {h : Heap} {mg : Str → Option Value} {fa CP C CL CB f1 f2 f3 f4 f5 f6 f7 f8 f9 f10 f11 f12 f13 f14 f15 f16 f17 f18 f19 f20 f21 f22 f23 f24 f25 f26 : Addr} (X : K.In h) (G : h.Ns mainGlobals mg) (hfa : mg "law" = some (.ref fa))
    {tk0 tk1 tk2 tk3 tk4 tk5 : Tok}
    {od1 an1 od2 an2 od3 an3 od4 an4 od5 an5 od6 an6 od7 an7 od8 an8 od9 an9 od10 an10 od11 an11 od12 an12 od13 an13 od14 an14 od15 an15 od16 an16 od17 an17 od18 an18 od19 an19 od20 an20 od21 an21 od22 an22 od23 an23 od24 an24 od25 an25 od26 an26 : Option Addr} {sl1 sl2 sl3 sl4 sl5 sl6 sl7 sl8 sl9 sl10 sl11 sl12 sl13 sl14 sl15 sl16 sl17 sl18 sl19 sl20 sl21 sl22 sl23 sl24 sl25 sl26 : Array (Option Value)}
    {oc1 kV1 dc1 pm1 cd1 ct1 oc2 kV2 dc2 pm2 cd2 ct2 oc3 kV3 dc3 pm3 cd3 ct3 oc4 kV4 dc4 pm4 cd4 ct4 oc5 kV5 dc5 pm5 cd5 ct5 oc6 kV6 dc6 pm6 cd6 ct6 oc7 kV7 dc7 pm7 cd7 ct7 oc8 kV8 dc8 pm8 cd8 ct8 oc9 kV9 dc9 pm9 cd9 ct9 oc10 kV10 dc10 pm10 cd10 ct10 oc11 kV11 dc11 pm11 cd11 ct11 oc12 kV12 dc12 pm12 cd12 ct12 oc13 kV13 dc13 pm13 cd13 ct13 oc14 kV14 dc14 pm14 cd14 ct14 oc15 kV15 dc15 pm15 cd15 ct15 oc16 kV16 dc16 pm16 cd16 ct16 oc17 kV17 dc17 pm17 cd17 ct17 oc18 kV18 dc18 pm18 cd18 ct18 oc19 kV19 dc19 pm19 cd19 ct19 oc20 kV20 dc20 pm20 cd20 ct20 oc21 kV21 dc21 pm21 cd21 ct21 oc22 kV22 dc22 pm22 cd22 ct22 oc23 kV23 dc23 pm23 cd23 ct23 oc24 kV24 dc24 pm24 cd24 ct24 oc25 kV25 dc25 pm25 cd25 ct25 oc26 kV26 dc26 pm26 cd26 ct26 : Value}
    {nm_C q_C : Str} {N_C : Addr} {bs_C bm_C : List Value} {sn_C : List Str} {sub_C : List Value} {ab_C : Bool} {col_C : Option Bool} {dd_C : Option Addr} {m0_C m1_C m2_C m3_C m5_C : Option Value}
    (c_LONGEST_NAME : PySem.W.nsIn K mainGlobals "LONGEST_NAME" = some (some (.int 8 tk0)))
    (c_MOST_TESTS : PySem.W.nsIn K mainGlobals "MOST_TESTS" = some (some (.int 4 tk1)))
    (c_ANY_KIND : PySem.W.nsIn K mainGlobals "ANY_KIND" = some (some (.str (Str.ofString "*") tk2)))
    (c_INSIDE : PySem.W.nsIn K mainGlobals "INSIDE" = some (some (.str (Str.ofString "") tk3)))
    (c_CHILD : PySem.W.nsIn K mainGlobals "CHILD" = some (some (.str (Str.ofString ">") tk4)))
    (c_BEHIND : PySem.W.nsIn K mainGlobals "BEHIND" = some (some (.str (Str.ofString "+") tk5)))
    (aCP : PySem.W.nsIn K mainGlobals "Pattern" = some (some (.ref CP)))
    (pgCP : PySem.W.plainGet K CP Str.empty = true)
    (hdCP : PySem.W.hasDictIn K CP = true)
    (poCP : PySem.W.plainOver K CP = true)
    (saCP : PySem.W.findIn K (.ref CP) "__setattr__" = some (some (.builtin "object.__setattr__")))
    (mkCP : PySem.W.makesIn K CP = true)
    (kcCP : PySem.W.keepIn K (.ref CP) = true)
    (nCP_tests : PySem.W.findIn K (.ref CP) "tests" = some none)
    (nCP_links : PySem.W.findIn K (.ref CP) "links" = some none)
    (nCP_text : PySem.W.findIn K (.ref CP) "_text" = some none)
    (aCL : PySem.W.nsIn K mainGlobals "LaidError" = some (some (.ref CL)))
    (aCB : PySem.W.nsIn K mainGlobals "BadPattern" = some (some (.ref CB)))
    (aC : PySem.W.nsIn K mainGlobals "NoPlace" = some (some (.ref C)))
    (x_C : K.lookup C = some (excClassObj nm_C q_C C N_C bs_C bm_C true sn_C sub_C ab_C col_C dd_C m0_C m1_C m2_C m3_C m5_C "ValueError.__new__"))
    (xb_C : PySem.HandSPX.refsVE bm_C = true)
    (sa_C : PySem.W.findIn K (.ref C) "__setattr__" = some (some (.builtin "object.__setattr__")))
    (xe_C : PySem.W.subIn K (.ref C) (.type "BaseException") = some true)
    (xt_C : PySem.W.typeIn K (.ref C) = some (.type "type"))
    (xk_C : PySem.W.keepIn K (.ref C) = true)
    (f_C_place : PySem.W.findIn K (.ref C) "place" = some none)
    (hg_C : PySem.W.findIn K (.ref C) "__getattribute__" = some (some (.builtin "BaseException.__getattribute__")))
    (hk_C : PySem.W.findIn K (.ref C) "__getattr__" = some none)
    (hd_C : PySem.W.hasDictIn K C = true)
    (ha_C : PySem.W.findIn K (.ref C) "__class__" = some (some (.builtin "object.__class__")))
    (hn_C : PySem.W.specialIn K (.builtin "object.__class__") "__get__" = some (some (.builtin "getset_descriptor.__get__")))
    (ht_C : PySem.W.takesIn K (.builtin "object.__class__") = some true)
    (hm_C : PySem.W.mroIn K C (.type "object") = some true)
    (ls_C : PySem.W.subIn K (.ref C) (.ref C) = some true)
    (q1_C : PySem.W.kitOne K (.ref C) (.ref CL) = some true)
    (q2_C : PySem.W.kitOne K (.ref C) (.type "ValueError") = some true)
    (q3_C : PySem.W.kitOne K (.ref C) (.ref CB) = some false)
    (a1 : PySem.W.nsIn K mainGlobals "is_letter" = some (some (.ref f1)))
    (l1 : K.lookup f1 = some ⟨oc1, od1, .func (PySem.W.fnOf "is_letter" "is_letter" (defArgs sLetter) (defBody sLetter) (defScope sLetter) .none kV1 dc1 pm1 an1 cd1 ct1), sl1⟩)
    (c1 : PySem.W.codeIn K cd1 "is_letter" = true)
    (k1 : PySem.W.keepIn K (.ref f1) = true)
    (a2 : PySem.W.nsIn K mainGlobals "name_end" = some (some (.ref f2)))
    (l2 : K.lookup f2 = some ⟨oc2, od2, .func (PySem.W.fnOf "name_end" "name_end" (defArgs sNameEnd) (defBody sNameEnd) (defScope sNameEnd) .none kV2 dc2 pm2 an2 cd2 ct2), sl2⟩)
    (c2 : PySem.W.codeIn K cd2 "name_end" = true)
    (k2 : PySem.W.keepIn K (.ref f2) = true)
    (a3 : PySem.W.nsIn K mainGlobals "is_name" = some (some (.ref f3)))
    (l3 : K.lookup f3 = some ⟨oc3, od3, .func (PySem.W.fnOf "is_name" "is_name" (defArgs sIsName) (defBody sIsName) (defScope sIsName) .none kV3 dc3 pm3 an3 cd3 ct3), sl3⟩)
    (c3 : PySem.W.codeIn K cd3 "is_name" = true)
    (k3 : PySem.W.keepIn K (.ref f3) = true)
    (a4 : PySem.W.nsIn K mainGlobals "node_at" = some (some (.ref f4)))
    (l4 : K.lookup f4 = some ⟨oc4, od4, .func (PySem.W.fnOf "node_at" "node_at" (defArgs sNode) (defBody sNode) (defScope sNode) .none kV4 dc4 pm4 an4 cd4 ct4), sl4⟩)
    (c4 : PySem.W.codeIn K cd4 "node_at" = true)
    (k4 : PySem.W.keepIn K (.ref f4) = true)
    (a5 : PySem.W.nsIn K mainGlobals "element_at" = some (some (.ref f5)))
    (l5 : K.lookup f5 = some ⟨oc5, od5, .func (PySem.W.fnOf "element_at" "element_at" (defArgs sElem) (defBody sElem) (defScope sElem) .none kV5 dc5 pm5 an5 cd5 ct5), sl5⟩)
    (c5 : PySem.W.codeIn K cd5 "element_at" = true)
    (k5 : PySem.W.keepIn K (.ref f5) = true)
    (a6 : PySem.W.nsIn K mainGlobals "elder_of" = some (some (.ref f6)))
    (l6 : K.lookup f6 = some ⟨oc6, od6, .func (PySem.W.fnOf "elder_of" "elder_of" (defArgs sElder) (defBody sElder) (defScope sElder) .none kV6 dc6 pm6 an6 cd6 ct6), sl6⟩)
    (c6 : PySem.W.codeIn K cd6 "elder_of" = true)
    (k6 : PySem.W.keepIn K (.ref f6) = true)
    (a7 : PySem.W.nsIn K mainGlobals "_read_test" = some (some (.ref f7)))
    (l7 : K.lookup f7 = some ⟨oc7, od7, .func (PySem.W.fnOf "_read_test" "_read_test" (defArgs sTest) (defBody sTest) (defScope sTest) .none kV7 dc7 pm7 an7 cd7 ct7), sl7⟩)
    (c7 : PySem.W.codeIn K cd7 "_read_test" = true)
    (k7 : PySem.W.keepIn K (.ref f7) = true)
    (a8 : PySem.W.nsIn K mainGlobals "_read_tests" = some (some (.ref f8)))
    (l8 : K.lookup f8 = some ⟨oc8, od8, .func (PySem.W.fnOf "_read_tests" "_read_tests" (defArgs sTests) (defBody sTests) (defScope sTests) .none kV8 dc8 pm8 an8 cd8 ct8), sl8⟩)
    (c8 : PySem.W.codeIn K cd8 "_read_tests" = true)
    (k8 : PySem.W.keepIn K (.ref f8) = true)
    (a9 : PySem.W.nsIn K mainGlobals "passes" = some (some (.ref f9)))
    (l9 : K.lookup f9 = some ⟨oc9, od9, .func (PySem.W.fnOf "passes" "passes" (defArgs sPasses) (defBody sPasses) (defScope sPasses) .none kV9 dc9 pm9 an9 cd9 ct9), sl9⟩)
    (c9 : PySem.W.codeIn K cd9 "passes" = true)
    (k9 : PySem.W.keepIn K (.ref f9) = true)
    (a10 : PySem.W.nsIn K mainGlobals "_linked_places" = some (some (.ref f10)))
    (l10 : K.lookup f10 = some ⟨oc10, od10, .func (PySem.W.fnOf "_linked_places" "_linked_places" (defArgs sLinked) (defBody sLinked) (defScope sLinked) .none kV10 dc10 pm10 an10 cd10 ct10), sl10⟩)
    (c10 : PySem.W.codeIn K cd10 "_linked_places" = true)
    (k10 : PySem.W.keepIn K (.ref f10) = true)
    (a11 : PySem.W.nsIn K mainGlobals "_law_cell" = some (some (.ref f11)))
    (l11 : K.lookup f11 = some ⟨oc11, od11, .func (PySem.W.fnOf "_law_cell" "_law_cell" (defArgs sCell) (defBody sCell) (defScope sCell) .none kV11 dc11 pm11 an11 cd11 ct11), sl11⟩)
    (c11 : PySem.W.codeIn K cd11 "_law_cell" = true)
    (k11 : PySem.W.keepIn K (.ref f11) = true)
    (a12 : PySem.W.nsIn K mainGlobals "_law_row" = some (some (.ref f12)))
    (l12 : K.lookup f12 = some ⟨oc12, od12, .func (PySem.W.fnOf "_law_row" "_law_row" (defArgs sRow) (defBody sRow) (defScope sRow) .none kV12 dc12 pm12 an12 cd12 ct12), sl12⟩)
    (c12 : PySem.W.codeIn K cd12 "_law_row" = true)
    (k12 : PySem.W.keepIn K (.ref f12) = true)
    (a13 : PySem.W.nsIn K mainGlobals "_law_names" = some (some (.ref f13)))
    (l13 : K.lookup f13 = some ⟨oc13, od13, .func (PySem.W.fnOf "_law_names" "_law_names" (defArgs sNames) (defBody sNames) (defScope sNames) .none kV13 dc13 pm13 an13 cd13 ct13), sl13⟩)
    (c13 : PySem.W.codeIn K cd13 "_law_names" = true)
    (k13 : PySem.W.keepIn K (.ref f13) = true)
    (a14 : PySem.W.nsIn K mainGlobals "_law_tree" = some (some (.ref f14)))
    (l14 : K.lookup f14 = some ⟨oc14, od14, .func (PySem.W.fnOf "_law_tree" "_law_tree" (defArgs sTree) (defBody sTree) (defScope sTree) .none kV14 dc14 pm14 an14 cd14 ct14), sl14⟩)
    (c14 : PySem.W.codeIn K cd14 "_law_tree" = true)
    (k14 : PySem.W.keepIn K (.ref f14) = true)
    (a15 : PySem.W.nsIn K mainGlobals "_law_nodes" = some (some (.ref f15)))
    (l15 : K.lookup f15 = some ⟨oc15, od15, .func (PySem.W.fnOf "_law_nodes" "_law_nodes" (defArgs sNodes) (defBody sNodes) (defScope sNodes) .none kV15 dc15 pm15 an15 cd15 ct15), sl15⟩)
    (c15 : PySem.W.codeIn K cd15 "_law_nodes" = true)
    (k15 : PySem.W.keepIn K (.ref f15) = true)
    (a16 : PySem.W.nsIn K mainGlobals "_law_fits" = some (some (.ref f16)))
    (l16 : K.lookup f16 = some ⟨oc16, od16, .func (PySem.W.fnOf "_law_fits" "_law_fits" (defArgs sFits) (defBody sFits) (defScope sFits) .none kV16 dc16 pm16 an16 cd16 ct16), sl16⟩)
    (c16 : PySem.W.codeIn K cd16 "_law_fits" = true)
    (k16 : PySem.W.keepIn K (.ref f16) = true)
    (a17 : PySem.W.nsIn K mainGlobals "_law_aimed" = some (some (.ref f17)))
    (l17 : K.lookup f17 = some ⟨oc17, od17, .func (PySem.W.fnOf "_law_aimed" "_law_aimed" (defArgs sAimed) (defBody sAimed) (defScope sAimed) .none kV17 dc17 pm17 an17 cd17 ct17), sl17⟩)
    (c17 : PySem.W.codeIn K cd17 "_law_aimed" = true)
    (k17 : PySem.W.keepIn K (.ref f17) = true)
    (a18 : PySem.W.nsIn K mainGlobals "_law_free" = some (some (.ref f18)))
    (l18 : K.lookup f18 = some ⟨oc18, od18, .func (PySem.W.fnOf "_law_free" "_law_free" (defArgs sFree) (defBody sFree) (defScope sFree) .none kV18 dc18 pm18 an18 cd18 ct18), sl18⟩)
    (c18 : PySem.W.codeIn K cd18 "_law_free" = true)
    (k18 : PySem.W.keepIn K (.ref f18) = true)
    (a19 : PySem.W.nsIn K mainGlobals "_law_written" = some (some (.ref f19)))
    (l19 : K.lookup f19 = some ⟨oc19, od19, .func (PySem.W.fnOf "_law_written" "_law_written" (defArgs sWritten) (defBody sWritten) (defScope sWritten) .none kV19 dc19 pm19 an19 cd19 ct19), sl19⟩)
    (c19 : PySem.W.codeIn K cd19 "_law_written" = true)
    (k19 : PySem.W.keepIn K (.ref f19) = true)
    (a20 : PySem.W.nsIn K mainGlobals "_law_right" = some (some (.ref f20)))
    (l20 : K.lookup f20 = some ⟨oc20, od20, .func (PySem.W.fnOf "_law_right" "_law_right" (defArgs sRight) (defBody sRight) (defScope sRight) .none kV20 dc20 pm20 an20 cd20 ct20), sl20⟩)
    (c20 : PySem.W.codeIn K cd20 "_law_right" = true)
    (k20 : PySem.W.keepIn K (.ref f20) = true)
    (a21 : PySem.W.nsIn K mainGlobals "_law_no_place" = some (some (.ref f21)))
    (l21 : K.lookup f21 = some ⟨oc21, od21, .func (PySem.W.fnOf "_law_no_place" "_law_no_place" (defArgs sNo) (defBody sNo) (defScope sNo) .none kV21 dc21 pm21 an21 cd21 ct21), sl21⟩)
    (c21 : PySem.W.codeIn K cd21 "_law_no_place" = true)
    (k21 : PySem.W.keepIn K (.ref f21) = true)
    (a22 : PySem.W.nsIn K mainGlobals "law" = some (some (.ref f22)))
    (l22 : K.lookup f22 = some ⟨oc22, od22, .func (PySem.W.fnOf "law" "law" (defArgs sLaw) (defBody sLaw) (defScope sLaw) .none kV22 dc22 pm22 an22 cd22 ct22), sl22⟩)
    (c22 : PySem.W.codeIn K cd22 "law" = true)
    (k22 : PySem.W.keepIn K (.ref f22) = true)
    (a23 : PySem.W.findIn K (.ref CP) "__init__" = some (some (.ref f23)))
    (i23 : PySem.W.isFn K (.ref f23) = true)
    (l23 : K.lookup f23 = some ⟨oc23, od23, .func (PySem.W.fnOf "__init__" "Pattern.__init__" (defArgs sPInit) (defBody sPInit) (defScope sPInit) .none kV23 dc23 pm23 an23 cd23 ct23), sl23⟩)
    (c23 : PySem.W.codeIn K cd23 "Pattern.__init__" = true)
    (k23 : PySem.W.keepIn K (.ref f23) = true)
    (a24 : PySem.W.findIn K (.ref CP) "__call__" = some (some (.ref f24)))
    (i24 : PySem.W.isFn K (.ref f24) = true)
    (x24 : PySem.W.fnIn K f24 = true)
    (l24 : K.lookup f24 = some ⟨oc24, od24, .func (PySem.W.fnOf "__call__" "Pattern.__call__" (defArgs sPCall) (defBody sPCall) (defScope sPCall) .none kV24 dc24 pm24 an24 cd24 ct24), sl24⟩)
    (c24 : PySem.W.codeIn K cd24 "Pattern.__call__" = true)
    (k24 : PySem.W.keepIn K (.ref f24) = true)
    (a25 : PySem.W.findIn K (.ref CP) "_reaches" = some (some (.ref f25)))
    (i25 : PySem.W.isFn K (.ref f25) = true)
    (l25 : K.lookup f25 = some ⟨oc25, od25, .func (PySem.W.fnOf "_reaches" "Pattern._reaches" (defArgs sReach) (defBody sReach) (defScope sReach) .none kV25 dc25 pm25 an25 cd25 ct25), sl25⟩)
    (c25 : PySem.W.codeIn K cd25 "Pattern._reaches" = true)
    (k25 : PySem.W.keepIn K (.ref f25) = true)
    (a26 : PySem.W.findIn K (.ref C) "__init__" = some (some (.ref f26)))
    (l26 : K.lookup f26 = some ⟨oc26, od26, .func (PySem.W.fnOf "__init__" "NoPlace.__init__" (defArgs sInit) (defBody sInit) (defScope sInit) .none kV26 dc26 pm26 an26 cd26 ct26), sl26⟩)
    (c26 : PySem.W.codeIn K cd26 "NoPlace.__init__" = true)
    (k26 : PySem.W.keepIn K (.ref f26) = true)
    (t26 : PySem.W.typeIn K (.ref f26) = some (.type "function"))
    (z0 : PySem.W.nsIn K mainGlobals "len" = some none)
    (z1 : PySem.W.nsIn K mainGlobals "int" = some none)
    (z2 : PySem.W.nsIn K mainGlobals "str" = some none)
    (z3 : PySem.W.nsIn K mainGlobals "bool" = some none)
    (z4 : PySem.W.nsIn K mainGlobals "tuple" = some none)
    (z5 : PySem.W.nsIn K mainGlobals "list" = some none)
    (z6 : PySem.W.nsIn K mainGlobals "max" = some none)
    (z7 : PySem.W.nsIn K mainGlobals "range" = some none)
    (z8 : PySem.W.nsIn K mainGlobals "isinstance" = some none)
    (z9 : PySem.W.nsIn K mainGlobals "ValueError" = some none) :
    ∃ fd : FuncData, (∀ (s : Shared) (v : Value), BindsTo s fd ⟨[v], []⟩ [("_law_script", v)]) ∧ ∀ base : Heap, K.In base → base.Ns mainGlobals mg → FnOk l.prog w K mg base CX0 14 fa fd ["_law_script"] (spLaw K) := by
  have e := hfa.symm.trans (PySem.W.mg_of X G a22); cases e
  have B : Blt mg := ⟨PySem.W.mg_none_of X G z0, PySem.W.mg_none_of X G z1, PySem.W.mg_none_of X G z2, PySem.W.mg_none_of X G z3, PySem.W.mg_none_of X G z4, PySem.W.mg_none_of X G z5, PySem.W.mg_none_of X G z6, PySem.W.mg_none_of X G z7, PySem.W.mg_none_of X G z8, PySem.W.mg_none_of X G z9⟩
  have Z : Cst mg tk0 tk1 tk2 tk3 tk4 tk5 := ⟨PySem.W.mg_of X G c_LONGEST_NAME, PySem.W.mg_of X G c_MOST_TESTS, PySem.W.mg_of X G c_ANY_KIND, PySem.W.mg_of X G c_INSIDE, PySem.W.mg_of X G c_CHILD, PySem.W.mg_of X G c_BEHIND⟩
  have F1 := fun_mk (st := sLetter) l1 c1 k1
  have F2 := fun_mk (st := sNameEnd) l2 c2 k2
  have F3 := fun_mk (st := sIsName) l3 c3 k3
  have F4 := fun_mk (st := sNode) l4 c4 k4
  have F5 := fun_mk (st := sElem) l5 c5 k5
  have F6 := fun_mk (st := sElder) l6 c6 k6
  have F7 := fun_mk (st := sTest) l7 c7 k7
  have F8 := fun_mk (st := sTests) l8 c8 k8
  have F9 := fun_mk (st := sPasses) l9 c9 k9
  have F10 := fun_mk (st := sLinked) l10 c10 k10
  have F11 := fun_mk (st := sCell) l11 c11 k11
  have F12 := fun_mk (st := sRow) l12 c12 k12
  have F13 := fun_mk (st := sNames) l13 c13 k13
  have F14 := fun_mk (st := sTree) l14 c14 k14
  have F15 := fun_mk (st := sNodes) l15 c15 k15
  have F16 := fun_mk (st := sFits) l16 c16 k16
  have F17 := fun_mk (st := sAimed) l17 c17 k17
  have F18 := fun_mk (st := sFree) l18 c18 k18
  have F19 := fun_mk (st := sWritten) l19 c19 k19
  have F20 := fun_mk (st := sRight) l20 c20 k20
  have F21 := fun_mk (st := sNo) l21 c21 k21
  have F22 := fun_mk (st := sLaw) l22 c22 k22
  have F23 := fun_mk (st := sPInit) l23 c23 k23
  have F24 := fun_mk (st := sPCall) l24 c24 k24
  have F25 := fun_mk (st := sReach) l25 c25 k25
  have F26 := fun_mk (st := sInit) l26 c26 k26
  have b1 := F1.binds (ps := ["char"]) fun _ _ _ _ _ _ us hl => match us, hl with | [_], _ => rfl
  have b2 := F2.binds (ps := ["text", "start"]) fun _ _ _ _ _ _ us hl => match us, hl with | [_, _], _ => rfl
  have b3 := F3.binds (ps := ["text"]) fun _ _ _ _ _ _ us hl => match us, hl with | [_], _ => rfl
  have b4 := F4.binds (ps := ["tree", "place"]) fun _ _ _ _ _ _ us hl => match us, hl with | [_, _], _ => rfl
  have b5 := F5.binds (ps := ["tree", "place"]) fun _ _ _ _ _ _ us hl => match us, hl with | [_, _], _ => rfl
  have b6 := F6.binds (ps := ["tree", "place"]) fun _ _ _ _ _ _ us hl => match us, hl with | [_, _], _ => rfl
  have b7 := F7.binds (ps := ["word"]) fun _ _ _ _ _ _ us hl => match us, hl with | [_], _ => rfl
  have b8 := F8.binds (ps := ["text"]) fun _ _ _ _ _ _ us hl => match us, hl with | [_], _ => rfl
  have b9 := F9.binds (ps := ["test", "kind", "mark"]) fun _ _ _ _ _ _ us hl => match us, hl with | [_, _, _], _ => rfl
  have b10 := F10.binds (ps := ["tree", "place", "link"]) fun _ _ _ _ _ _ us hl => match us, hl with | [_, _, _], _ => rfl
  have b11 := F11.binds (ps := ["_law_script", "_law_k"]) fun _ _ _ _ _ _ us hl => match us, hl with | [_, _], _ => rfl
  have b12 := F12.binds (ps := ["_law_cell_here", "_law_limits"]) fun _ _ _ _ _ _ us hl => match us, hl with | [_, _], _ => rfl
  have b13 := F13.binds (ps := ["_law_cell_here", "_law_many"]) fun _ _ _ _ _ _ us hl => match us, hl with | [_, _], _ => rfl
  have b14 := F14.binds (ps := ["_law_cell_here", "_law_kinds", "_law_marks"]) fun _ _ _ _ _ _ us hl => match us, hl with | [_, _, _], _ => rfl
  have b15 := F15.binds (ps := ["_law_tree_here"]) fun _ _ _ _ _ _ us hl => match us, hl with | [_], _ => rfl
  have b16 := F16.binds (ps := ["_law_nodes_here", "_law_tests", "_law_links", "_law_place", "_law_t"]) fun _ _ _ _ _ _ us hl => match us, hl with | [_, _, _, _, _], _ => rfl
  have b17 := F17.binds (ps := ["_law_cell_here", "_law_nodes_here"]) fun _ _ _ _ _ _ us hl => match us, hl with | [_, _], _ => rfl
  have b18 := F18.binds (ps := ["_law_cell_here", "_law_kinds", "_law_marks"]) fun _ _ _ _ _ _ us hl => match us, hl with | [_, _, _], _ => rfl
  have b19 := F19.binds (ps := ["_law_tests", "_law_links"]) fun _ _ _ _ _ _ us hl => match us, hl with | [_, _], _ => rfl
  have b20 := F20.binds (ps := ["_law_pattern", "_law_tree_here", "_law_nodes_here", "_law_drawn", "_law_places"]) fun _ _ _ _ _ _ us hl => match us, hl with | [_, _, _, _, _], _ => rfl
  have b21 := F21.binds (ps := ["_law_pattern", "_law_tree_here", "_law_place"]) fun _ _ _ _ _ _ us hl => match us, hl with | [_, _, _], _ => rfl
  have b23 := F23.binds (ps := ["self", "text"]) fun _ _ _ _ _ _ us hl => match us, hl with | [_, _], _ => rfl
  have b24 := F24.binds (ps := ["self", "tree", "place"]) fun _ _ _ _ _ _ us hl => match us, hl with | [_, _, _], _ => rfl
  have b25 := F25.binds (ps := ["self", "tree", "place", "last"]) fun _ _ _ _ _ _ us hl => match us, hl with | [_, _, _, _], _ => rfl
  have b26 := F26.binds (ps := ["self", "place"]) fun _ _ _ _ _ _ us hl => match us, hl with | [_, _], _ => rfl
  have T : Txt K mg CP := ⟨⟨pgCP, hdCP, poCP, saCP⟩, nCP_tests, nCP_links, nCP_text, PySem.W.mg_of X G aCP⟩
  have NP : NoP K mg C f26 _ := ⟨PySem.W.mg_of X G aC, ⟨⟨nm_C, q_C, N_C, bs_C, bm_C, sn_C, sub_C, ab_C, col_C, dd_C, m0_C, m1_C, m2_C, m3_C, m5_C, x_C, xb_C⟩, sa_C, xe_C, xt_C, xk_C⟩, f_C_place, a26, t26, F26, b26⟩
  have ER : Errs K mg C CL CB := ⟨PySem.W.mg_of X G aCL, PySem.W.mg_of X G aCB, ⟨hg_C, hk_C, xe_C, hd_C, ha_C, hn_C, ht_C, hm_C⟩, PySem.W.exm_ref xe_C hd_C xt_C ls_C, q1_C, q2_C, q3_C⟩
  exact ⟨PySem.W.fnOf "law" "law" (defArgs sLaw) (defBody sLaw) (defScope sLaw) .none kV22 dc22 pm22 an22 cd22 ct22, fun s v => .of_eq rfl, fun base _ _ =>
    ok_law B Z T ⟨mkCP, a23, i23, kcCP⟩ NP ER F22 F1 b1 (PySem.W.mg_of X G a1) F2 b2 (PySem.W.mg_of X G a2) F3 b3 (PySem.W.mg_of X G a3) F4 b4 (PySem.W.mg_of X G a4) F5 b5 (PySem.W.mg_of X G a5) F6 b6 (PySem.W.mg_of X G a6) F7 b7 (PySem.W.mg_of X G a7) F8 b8 (PySem.W.mg_of X G a8) F9 b9 (PySem.W.mg_of X G a9) F10 b10 (PySem.W.mg_of X G a10) F11 b11 (PySem.W.mg_of X G a11) F12 b12 (PySem.W.mg_of X G a12) F13 b13 (PySem.W.mg_of X G a13) F14 b14 (PySem.W.mg_of X G a14) F15 b15 (PySem.W.mg_of X G a15) F16 b16 (PySem.W.mg_of X G a16) F17 b17 (PySem.W.mg_of X G a17) F18 b18 (PySem.W.mg_of X G a18) F19 b19 (PySem.W.mg_of X G a19) F20 b20 (PySem.W.mg_of X G a20) F21 b21 (PySem.W.mg_of X G a21) F23 b23 F24 b24 ⟨a24, i24, x24⟩ F25 b25 ⟨a25, i25, k25⟩⟩
end K09
open PySem PySem.W PyProof.Rows
set_option maxRecDepth 100000 in
set_option maxHeartbeats 0 in
theorem PySem.Challenge.cw_laidforall_k09_pattern_matches_holds : PySem.Challenge.rw_laidforall_k09_pattern_matches.Holds := by
  w_on; o_law; k_head; (case hw => w_witness2)
  k_fill
  refine L2.walk_of (l := PySem.Challenge.rw_laidforall_k09_pattern_matches) (n := 63) (k := 14) (x := "_law_script") (CX := fun _ => L2.CX0) (sp := fun w => K09.spLaw _) rfl (by decide) rfl ⟨rfl, by decide, by decide⟩ (fun w h Y => PySem.W.kIn_of Y) ?F (fun _ _ a ns hl _ hS => ⟨a, ns, rfl, hS, hl, fun _ => rfl⟩) (fun _ _ _ _ _ h => h)
  case F =>
    intro w mg fa h KX G hmg
    refine' K09.all_mk KX G hmg ?zz_c_LONGEST_NAME ?zz_c_MOST_TESTS ?zz_c_ANY_KIND ?zz_c_INSIDE ?zz_c_CHILD ?zz_c_BEHIND ?zz_aCP ?zz_pgCP ?zz_hdCP ?zz_poCP ?zz_saCP ?zz_mkCP ?zz_kcCP ?zz_nCP_tests ?zz_nCP_links ?zz_nCP_text ?zz_aCL ?zz_aCB ?zz_aC ?zz_x_C ?zz_xb_C ?zz_sa_C ?zz_xe_C ?zz_xt_C ?zz_xk_C ?zz_f_C_place ?zz_hg_C ?zz_hk_C ?zz_hd_C ?zz_ha_C ?zz_hn_C ?zz_ht_C ?zz_hm_C ?zz_ls_C ?zz_q1_C ?zz_q2_C ?zz_q3_C ?zz_a1 ?zz_l1 ?zz_c1 ?zz_k1 ?zz_a2 ?zz_l2 ?zz_c2 ?zz_k2 ?zz_a3 ?zz_l3 ?zz_c3 ?zz_k3 ?zz_a4 ?zz_l4 ?zz_c4 ?zz_k4 ?zz_a5 ?zz_l5 ?zz_c5 ?zz_k5 ?zz_a6 ?zz_l6 ?zz_c6 ?zz_k6 ?zz_a7 ?zz_l7 ?zz_c7 ?zz_k7 ?zz_a8 ?zz_l8 ?zz_c8 ?zz_k8 ?zz_a9 ?zz_l9 ?zz_c9 ?zz_k9 ?zz_a10 ?zz_l10 ?zz_c10 ?zz_k10 ?zz_a11 ?zz_l11 ?zz_c11 ?zz_k11 ?zz_a12 ?zz_l12 ?zz_c12 ?zz_k12 ?zz_a13 ?zz_l13 ?zz_c13 ?zz_k13 ?zz_a14 ?zz_l14 ?zz_c14 ?zz_k14 ?zz_a15 ?zz_l15 ?zz_c15 ?zz_k15 ?zz_a16 ?zz_l16 ?zz_c16 ?zz_k16 ?zz_a17 ?zz_l17 ?zz_c17 ?zz_k17 ?zz_a18 ?zz_l18 ?zz_c18 ?zz_k18 ?zz_a19 ?zz_l19 ?zz_c19 ?zz_k19 ?zz_a20 ?zz_l20 ?zz_c20 ?zz_k20 ?zz_a21 ?zz_l21 ?zz_c21 ?zz_k21 ?zz_a22 ?zz_l22 ?zz_c22 ?zz_k22 ?zz_a23 ?zz_i23 ?zz_l23 ?zz_c23 ?zz_k23 ?zz_a24 ?zz_i24 ?zz_x24 ?zz_l24 ?zz_c24 ?zz_k24 ?zz_a25 ?zz_i25 ?zz_l25 ?zz_c25 ?zz_k25 ?zz_a26 ?zz_l26 ?zz_c26 ?zz_k26 ?zz_t26 ?zz_z0 ?zz_z1 ?zz_z2 ?zz_z3 ?zz_z4 ?zz_z5 ?zz_z6 ?zz_z7 ?zz_z8 ?zz_z9
    (case zz_c_LONGEST_NAME => first | k_is | rfl)
    (case zz_c_MOST_TESTS => first | k_is | rfl)
    (case zz_c_ANY_KIND => first | k_is | rfl)
    (case zz_c_INSIDE => first | k_is | rfl)
    (case zz_c_CHILD => first | k_is | rfl)
    (case zz_c_BEHIND => first | k_is | rfl)
    (case zz_aCP => first | k_is | rfl)
    (case zz_pgCP => first | k_is | rfl)
    (case zz_hdCP => first | k_is | rfl)
    (case zz_poCP => first | k_is | rfl)
    (case zz_saCP => first | k_is | rfl)
    (case zz_mkCP => first | k_is | rfl)
    (case zz_kcCP => first | k_is | rfl)
    (case zz_nCP_tests => first | k_is | rfl)
    (case zz_nCP_links => first | k_is | rfl)
    (case zz_nCP_text => first | k_is | rfl)
    (case zz_aCL => first | k_is | rfl)
    (case zz_aCB => first | k_is | rfl)
    (case zz_aC => first | k_is | rfl)
    (case zz_x_C => first | k_is | rfl)
    (case zz_xb_C => decide +kernel)
    (case zz_sa_C => first | k_is | rfl)
    (case zz_xe_C => first | k_is | rfl)
    (case zz_xt_C => first | k_is | rfl)
    (case zz_xk_C => first | k_is | rfl)
    (case zz_f_C_place => first | k_is | rfl)
    (case zz_hg_C => first | k_is | rfl)
    (case zz_hk_C => first | k_is | rfl)
    (case zz_hd_C => first | k_is | rfl)
    (case zz_ha_C => first | k_is | rfl)
    (case zz_hn_C => first | k_is | rfl)
    (case zz_ht_C => first | k_is | rfl)
    (case zz_hm_C => first | k_is | rfl)
    (case zz_ls_C => first | k_is | rfl)
    (case zz_q1_C => first | k_is | rfl)
    (case zz_q2_C => first | k_is | rfl)
    (case zz_q3_C => first | k_is | rfl)
    (case zz_a1 => first | k_is | rfl)
    (case zz_l1 => first | k_is | rfl)
    (case zz_c1 => first | k_is | rfl)
    (case zz_k1 => first | k_is | rfl)
    (case zz_a2 => first | k_is | rfl)
    (case zz_l2 => first | k_is | rfl)
    (case zz_c2 => first | k_is | rfl)
    (case zz_k2 => first | k_is | rfl)
    (case zz_a3 => first | k_is | rfl)
    (case zz_l3 => first | k_is | rfl)
    (case zz_c3 => first | k_is | rfl)
    (case zz_k3 => first | k_is | rfl)
    (case zz_a4 => first | k_is | rfl)
    (case zz_l4 => first | k_is | rfl)
    (case zz_c4 => first | k_is | rfl)
    (case zz_k4 => first | k_is | rfl)
    (case zz_a5 => first | k_is | rfl)
    (case zz_l5 => first | k_is | rfl)
    (case zz_c5 => first | k_is | rfl)
    (case zz_k5 => first | k_is | rfl)
    (case zz_a6 => first | k_is | rfl)
    (case zz_l6 => first | k_is | rfl)
    (case zz_c6 => first | k_is | rfl)
    (case zz_k6 => first | k_is | rfl)
    (case zz_a7 => first | k_is | rfl)
    (case zz_l7 => first | k_is | rfl)
    (case zz_c7 => first | k_is | rfl)
    (case zz_k7 => first | k_is | rfl)
    (case zz_a8 => first | k_is | rfl)
    (case zz_l8 => first | k_is | rfl)
    (case zz_c8 => first | k_is | rfl)
    (case zz_k8 => first | k_is | rfl)
    (case zz_a9 => first | k_is | rfl)
    (case zz_l9 => first | k_is | rfl)
    (case zz_c9 => first | k_is | rfl)
    (case zz_k9 => first | k_is | rfl)
    (case zz_a10 => first | k_is | rfl)
    (case zz_l10 => first | k_is | rfl)
    (case zz_c10 => first | k_is | rfl)
    (case zz_k10 => first | k_is | rfl)
    (case zz_a11 => first | k_is | rfl)
    (case zz_l11 => first | k_is | rfl)
    (case zz_c11 => first | k_is | rfl)
    (case zz_k11 => first | k_is | rfl)
    (case zz_a12 => first | k_is | rfl)
    (case zz_l12 => first | k_is | rfl)
    (case zz_c12 => first | k_is | rfl)
    (case zz_k12 => first | k_is | rfl)
    (case zz_a13 => first | k_is | rfl)
    (case zz_l13 => first | k_is | rfl)
    (case zz_c13 => first | k_is | rfl)
    (case zz_k13 => first | k_is | rfl)
    (case zz_a14 => first | k_is | rfl)
    (case zz_l14 => first | k_is | rfl)
    (case zz_c14 => first | k_is | rfl)
    (case zz_k14 => first | k_is | rfl)
    (case zz_a15 => first | k_is | rfl)
    (case zz_l15 => first | k_is | rfl)
    (case zz_c15 => first | k_is | rfl)
    (case zz_k15 => first | k_is | rfl)
    (case zz_a16 => first | k_is | rfl)
    (case zz_l16 => first | k_is | rfl)
    (case zz_c16 => first | k_is | rfl)
    (case zz_k16 => first | k_is | rfl)
    (case zz_a17 => first | k_is | rfl)
    (case zz_l17 => first | k_is | rfl)
    (case zz_c17 => first | k_is | rfl)
    (case zz_k17 => first | k_is | rfl)
    (case zz_a18 => first | k_is | rfl)
    (case zz_l18 => first | k_is | rfl)
    (case zz_c18 => first | k_is | rfl)
    (case zz_k18 => first | k_is | rfl)
    (case zz_a19 => first | k_is | rfl)
    (case zz_l19 => first | k_is | rfl)
    (case zz_c19 => first | k_is | rfl)
    (case zz_k19 => first | k_is | rfl)
    (case zz_a20 => first | k_is | rfl)
    (case zz_l20 => first | k_is | rfl)
    (case zz_c20 => first | k_is | rfl)
    (case zz_k20 => first | k_is | rfl)
    (case zz_a21 => first | k_is | rfl)
    (case zz_l21 => first | k_is | rfl)
    (case zz_c21 => first | k_is | rfl)
    (case zz_k21 => first | k_is | rfl)
    (case zz_a22 => first | k_is | rfl)
    (case zz_l22 => first | k_is | rfl)
    (case zz_c22 => first | k_is | rfl)
    (case zz_k22 => first | k_is | rfl)
    (case zz_a23 => first | k_is | rfl)
    (case zz_i23 => first | k_is | rfl)
    (case zz_l23 => first | k_is | rfl)
    (case zz_c23 => first | k_is | rfl)
    (case zz_k23 => first | k_is | rfl)
    (case zz_a24 => first | k_is | rfl)
    (case zz_i24 => first | k_is | rfl)
    (case zz_x24 => first | k_is | rfl)
    (case zz_l24 => first | k_is | rfl)
    (case zz_c24 => first | k_is | rfl)
    (case zz_k24 => first | k_is | rfl)
    (case zz_a25 => first | k_is | rfl)
    (case zz_i25 => first | k_is | rfl)
    (case zz_l25 => first | k_is | rfl)
    (case zz_c25 => first | k_is | rfl)
    (case zz_k25 => first | k_is | rfl)
    (case zz_a26 => first | k_is | rfl)
    (case zz_l26 => first | k_is | rfl)
    (case zz_c26 => first | k_is | rfl)
    (case zz_k26 => first | k_is | rfl)
    (case zz_t26 => first | k_is | rfl)
    (case zz_z0 => first | k_is | rfl)
    (case zz_z1 => first | k_is | rfl)
    (case zz_z2 => first | k_is | rfl)
    (case zz_z3 => first | k_is | rfl)
    (case zz_z4 => first | k_is | rfl)
    (case zz_z5 => first | k_is | rfl)
    (case zz_z6 => first | k_is | rfl)
    (case zz_z7 => first | k_is | rfl)
    (case zz_z8 => first | k_is | rfl)
    (case zz_z9 => first | k_is | rfl)

