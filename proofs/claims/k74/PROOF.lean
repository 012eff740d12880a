import PyProof.Rows.All
import Wide.All
import OpenK.AllK
import Wide.FinOn
import KE.KIsAll
import KE.KTryMore
import HandS.ForMost
import HandS.ForExc
import HandS.ExcInit
import HandS.ExcIs
import HandS.ExcField
import HandS.IsInst
import HandS.TupAny
import HandS.Walk
import HandS.NoneIn
import HandS.Evl
import HandS.Words
import HandS.FStr
import HandS.Text
import HandS.StrMore
import HandS.More
import HandS.Deep
import HandS.Codes
import HandS.Wide
import PySem.Challenge.RW_laidforall_k74_places_and_layings_writte
set_option Elab.async false
set_option linter.all false
set_option maxRecDepth 100000
set_option maxHeartbeats 4000000
namespace K74
open PySem PySem.Spec PyProof.Rows L2 PySem.W PySem.Calls
/-! ### heaps -/
theorem same_new {H : Hp} {p : Addr} {o : HO} (h : H p = none) : Same H (upd H p o) := fun b x e => by
  rw [upd_ne (ne_of_none e h)]; exact e
theorem same_at {H H' : Hp} {o : Addr} {x : HO} (s : Same H H') (h : H o = none) : Same H (upd H' o x) := fun b z e => by
  rw [upd_ne (ne_of_none e h)]; exact s b z e
theorem same_new2 {H H' : Hp} {p : Addr} {o : HO} (s : Same H H') (h : H' p = none) : Same H (upd H' p o) := fun b z e => by
  have e2 := s b z e
  rw [upd_ne (ne_of_none e2 h)]; exact e2
theorem map_snoc (rs : List Int) (r : Int) : rs.map V.int ++ [V.int r] = (rs ++ [r]).map V.int := by rw [List.map_append]; rfl
theorem map_snocS (rs : List Str) (r : Str) : rs.map V.str ++ [V.str r] = (rs ++ [r]).map V.str := by rw [List.map_append]; rfl
/-! ### texts as lists -/
abbrev tl (z : Str) : List Nat := z.cps.toList
theorem tl_len (z : Str) : (tl z).length = z.length := by simp [tl, Str.length]
theorem str_eq {a b : Str} (h : tl a = tl b) : a = b := by
  obtain ⟨x⟩ := a; obtain ⟨y⟩ := b
  show (⟨x⟩ : Str) = ⟨y⟩
  congr 1
  apply Array.toList_inj.mp; simpa [tl] using h
theorem str_of {z : Str} {x : Nat} (h : tl z = [x]) : z = ⟨#[x]⟩ := str_eq h
theorem str_mk (z : Str) : z = ⟨(tl z).toArray⟩ := str_eq rfl
theorem tl_add (a b : Str) : tl (a ++ b) = tl a ++ tl b := by
  show (a.cps ++ b.cps).toList = _
  rw [Array.toList_append]
theorem len_add (a b : Str) : (a ++ b).length = a.length + b.length := by
  show (a.cps ++ b.cps).size = _
  rw [Array.size_append]; rfl
theorem lt_one (x y : Nat) : decide ([x] < [y]) = !decide (y ≤ x) := by
  have e : decide ([x] < [y]) = decide (x < y) := by simp [List.cons_lt_cons_iff]
  rw [e]
  by_cases h : y ≤ x
  · rw [decide_eq_true h, decide_eq_false (by omega)]; rfl
  · rw [decide_eq_false h, decide_eq_true (by omega)]; rfl
theorem eqS (a b : Nat) : decide (V.str ⟨#[a]⟩ = V.str ⟨#[b]⟩) = decide (a = b) := by
  refine decide_eq_decide.mpr ⟨fun h => ?_, fun h => by rw [h]⟩
  injection h with h1
  have h2 := congrArg tl h1
  simpa [tl] using h2
theorem eqT (a b : Str) : decide (V.str a = V.str b) = decide (tl a = tl b) := by
  refine decide_eq_decide.mpr ⟨fun h => ?_, fun h => by rw [str_eq h]⟩
  injection h with h1
  rw [h1]
theorem eqI (a b : Int) : decide (V.int a = V.int b) = decide (a = b) := by
  refine decide_eq_decide.mpr ⟨fun h => ?_, fun h => by rw [h]⟩
  injection h
theorem cut_tl (z : Str) (a b : Nat) : tl (cutS z (some (a : Int)) (some (b : Int))) = ((tl z).drop (min a z.length)).take (min b z.length - min a z.length) := by
  unfold cutS tl
  rw [HT.sIx_nat, HT.sIx_nat]
theorem cut_to (z : Str) (b : Nat) : tl (cutS z none (some (b : Int))) = (tl z).take b := by
  unfold cutS tl
  rw [HT.sIx_none, HT.sIx_nat]
  show (z.cps.toList.drop 0).take (min b z.length - 0) = _
  rw [List.drop_zero, Nat.sub_zero]
  by_cases h : b ≤ z.length
  · rw [Nat.min_eq_left h]
  · rw [Nat.min_eq_right (by omega), List.take_of_length_le (by rw [tl_len]; exact Nat.le_refl _), List.take_of_length_le (by rw [tl_len]; omega)]
theorem cut_from (z : Str) (a : Nat) : tl (cutS z (some (a : Int)) none) = (tl z).drop a := by
  unfold cutS tl
  rw [HT.sIx_none, HT.sIx_nat]
  show (z.cps.toList.drop (min a z.length)).take (z.length - min a z.length) = _
  by_cases h : a ≤ z.length
  · rw [Nat.min_eq_left h, List.take_of_length_le (by rw [List.length_drop, tl_len]; exact Nat.le_refl _)]
  · rw [Nat.min_eq_right (by omega), Nat.sub_self, List.take_zero, List.drop_of_length_le (by rw [tl_len]; omega)]
theorem joinL_flat : ∀ ls : List (List Nat), TL.joinL [] ls = ls.flatten
  | [] => rfl
  | [p] => by simp [TL.joinL]
  | p :: q :: r => by
    have h := joinL_flat (q :: r)
    simp only [TL.joinL, List.nil_append, h, List.flatten_cons]
theorem tl_joined {e : Str} (he : tl e = []) (ys : List Str) : tl (Txt.join e ys) = (ys.map tl).flatten := by
  have h1 : TL.tl (Txt.join e ys) = TL.joinL (TL.tl e) (ys.map TL.tl) := by rw [TL.join_eq, TL.tl_join]
  have h2 : TL.tl e = [] := he
  rw [h2, joinL_flat] at h1
  exact h1
/-- texts of one sign each, joined -/
theorem join_ones (cs : List Nat) : tl (Txt.join (Str.ofString "") (cs.map fun c => (⟨#[c]⟩ : Str))) = cs := by
  rw [tl_joined (by decide +kernel), List.map_map]
  induction cs with
  | nil => rfl
  | cons c cs ih => simp only [List.map_cons, List.flatten_cons, ih]; rfl
theorem sum_ones (cs : List Nat) : ((cs.map fun c => (⟨#[c]⟩ : Str)).map (·.length)).sum = cs.length := by
  induction cs with
  | nil => rfl
  | cons c cs ih => simp only [List.map_cons, List.sum_cons, ih, List.length_cons]; show 1 + _ = _; omega

/-! the text -/
def topS (i : Nat) : Stmt := PySem.Challenge.pw_laidforall_k74_places_and_layings_writte.main.body.getD i (.Pass ⟨0, 0, 0, 0⟩)
abbrev sInit : Stmt := inClass (topS 3) 0
abbrev sDigit : Stmt := topS 7
abbrev sNum : Stmt := topS 8
abbrev sWPlace : Stmt := topS 12
abbrev sRPlace : Stmt := topS 13
abbrev sWLay : Stmt := topS 14
abbrev sCell : Stmt := topS 16
abbrev sRow : Stmt := topS 17
abbrev sSame : Stmt := topS 18
abbrev sIndex : Stmt := topS 19
abbrev sDrawn : Stmt := topS 20
abbrev sWritten : Stmt := topS 21
abbrev sPlace : Stmt := topS 22
abbrev sDue : Stmt := topS 23
abbrev sRead : Stmt := topS 24
abbrev sSpoilt : Stmt := topS 25
abbrev sOdd : Stmt := topS 26
abbrev sLaying : Stmt := topS 27
abbrev sLines : Stmt := topS 28
abbrev sLaw : Stmt := topS 29
structure Blt (mg : Str → Option Value) : Prop where
  len : mg "len" = none
  int : mg "int" = none
  str : mg "str" = none
  bool : mg "bool" = none
  tuple : mg "tuple" = none
  list : mg "list" = none
  range : mg "range" = none
  isi : mg "isinstance" = none
  all : mg "all" = none
  min : mg "min" = none
  ve : mg "ValueError" = none
structure Cst (mg : Str → Option Value) (t1 t2 t3 : Tok) : Prop where
  g_LONGEST_NUMBER : mg "LONGEST_NUMBER" = some (.int 12 t1)
  g_ROOT : mg "ROOT" = some (.str (Str.ofString "root") t2)
  g_MOST_INDEXES : mg "MOST_INDEXES" = some (.int 12 t3)
/-! ### places as words -/
abbrev nv (n : Nat) : V := .int (n : Int)
def ov : Option Nat → V
  | none => .non
  | some n => .int (n : Int)
abbrev nS (n : Nat) : Str := Str.ofString (toString ((n : Nat) : Int))
abbrev numL (n : Nat) : List Nat := TL.numL n
theorem tl_nS (n : Nat) : tl (nS n) = numL n := TL.tl_num n
def rootL : List Nat := [114, 111, 111, 116]
theorem tl_root : tl (Str.ofString "root") = rootL := by decide +kernel
def dotS : Str := Str.ofString "."
theorem tl_dot : tl dotS = [46] := by decide +kernel
def isD (c : Nat) : Bool := decide (48 ≤ c) && decide (c ≤ 57)
/-- the number that is written so -/
def numOf (l : List Nat) : Option Nat :=
  if l = [] ∨ 12 < l.length ∨ (1 < l.length ∧ l.head? = some 48) ∨ l.all isD = false then none else some (NumText.digitsVal l)
def allSome : List (Option Nat) → Option (List Nat)
  | [] => some []
  | none :: _ => none
  | some n :: r => (allSome r).map (n :: ·)
def parts (l : List Nat) : List (List Nat) := TL.spl [46] 0 [] l
def rdW (l : List Nat) : Option (List Nat) := if l = rootL then some [] else allSome ((parts l).map numOf)
def wrL (ns : List Nat) : List Nat := if ns = [] then rootL else TL.joinL [46] (ns.map numL)
theorem isD_all {l : List Nat} : l.all isD = true ↔ NumText.AllDigits l := by
  unfold NumText.AllDigits
  rw [List.all_eq_true]
  constructor
  · intro h c hc
    have := h c hc
    simp [isD] at this; omega
  · intro h c hc
    have := h c hc
    simp [isD]; omega
theorem numL_head {n : Nat} (h : 1 < (numL n).length) : (numL n).head? ≠ some 48 := by
  induction n using Nat.strongRecOn with
  | _ n ih =>
    by_cases h10 : n < 10
    · have e : numL n = [48 + n] := TL.numL_lt h10
      rw [e] at h; simp at h
    · have e : numL n = numL (n / 10) ++ [48 + n % 10] := TL.numL_step (by omega)
      rw [e]
      by_cases h100 : n / 10 < 10
      · have e2 : numL (n / 10) = [48 + n / 10] := TL.numL_lt h100
        rw [e2]
        show some (48 + n / 10) ≠ some 48
        intro hx; injection hx with hx; omega
      · have e2 : numL (n / 10) = numL (n / 10 / 10) ++ [48 + n / 10 % 10] := TL.numL_step (by omega)
        have hne : numL (n / 10 / 10) ≠ [] := TL.numL_ne _
        have hl : 1 < (numL (n / 10)).length := by
          rw [e2, List.length_append, List.length_singleton]
          have := List.length_pos_iff.mpr hne
          omega
        have := ih (n / 10) (by omega) hl
        rw [List.head?_append]
        cases hh : (numL (n / 10)).head? with
        | none => rw [List.head?_eq_none_iff] at hh; rw [hh] at hl; simp at hl
        | some c => rw [hh] at this; exact this
theorem numOf_num {n : Nat} (h : n < 10 ^ 12) : numOf (numL n) = some n := by
  unfold numOf
  have h1 : numL n ≠ [] := TL.numL_ne n
  have h2 : (numL n).length ≤ 12 := TL.numL_len (by decide) h
  have h3 : (numL n).all isD = true := isD_all.mpr (TL.numL_digits n)
  rw [if_neg, show NumText.digitsVal (numL n) = n from TL.numL_val n]
  rintro (h | h | ⟨h, h'⟩ | h)
  · exact h1 h
  · omega
  · exact numL_head h h'
  · rw [h3] at h; cases h
theorem allSome_some : ∀ {ns : List Nat}, allSome (ns.map some) = some ns
  | [] => rfl
  | n :: ns => by simp [allSome, allSome_some (ns := ns)]
theorem allSome_none : ∀ {os : List (Option Nat)}, allSome os = none ↔ none ∈ os
  | [] => by simp [allSome]
  | none :: r => by simp [allSome]
  | some n :: r => by
    have ih := allSome_none (os := r)
    simp [allSome, Option.map_eq_none_iff, ih]
theorem allSome_is : ∀ {os : List (Option Nat)} {ns : List Nat}, allSome os = some ns → os = ns.map some
  | [], ns, h => by simp [allSome] at h; subst h; rfl
  | none :: r, ns, h => by simp [allSome] at h
  | some n :: r, ns, h => by
    simp only [allSome, Option.map_eq_some_iff] at h
    obtain ⟨ms, h1, rfl⟩ := h
    rw [allSome_is h1]; rfl
theorem free46 (n : Nat) : (46 : Nat) ∉ numL n := TL.numL_free (by omega)
theorem joinL_mem {s : List Nat} {x : Nat} : ∀ {ps : List (List Nat)}, x ∈ TL.joinL s ps → x ∈ s ∨ ∃ p ∈ ps, x ∈ p
  | [], h => by simp [TL.joinL] at h
  | [p], h => .inr ⟨p, by simp, h⟩
  | p :: q :: r, h => by
    simp only [TL.joinL, List.mem_append] at h
    rcases h with h | h | h
    · exact .inr ⟨p, by simp, h⟩
    · exact .inl h
    · rcases joinL_mem h with h | ⟨p', h1, h2⟩
      · exact .inl h
      · exact .inr ⟨p', List.mem_cons_of_mem _ h1, h2⟩
theorem wr_ne {ns : List Nat} (h : ns ≠ []) : TL.joinL [46] (ns.map numL) ≠ rootL := by
  intro e
  have h1 : (114 : Nat) ∈ TL.joinL [46] (ns.map numL) := by rw [e]; decide
  rcases joinL_mem h1 with h2 | ⟨p, h2, h3⟩
  · simp at h2
  · obtain ⟨n, _, rfl⟩ := List.mem_map.mp h2
    have := TL.numL_digits n 114 h3
    omega
theorem rd_wr {ns : List Nat} (h : ∀ n ∈ ns, n < 10 ^ 12) : rdW (wrL ns) = some ns := by
  unfold rdW wrL
  by_cases hn : ns = []
  · subst hn; rw [if_pos rfl, if_pos rfl]
  · rw [if_neg hn, if_neg (wr_ne hn)]
    unfold parts
    rw [TL.spl_join (by simpa using hn) (by
      intro p hp
      obtain ⟨n, _, rfl⟩ := List.mem_map.mp hp
      exact free46 n), List.map_map]
    have e : ns.map (numOf ∘ numL) = ns.map some := List.map_congr_left fun n hn' => numOf_num (h n hn')
    rw [e]; exact allSome_some
/-- how many dots -/
abbrev dots (l : List Nat) : Nat := l.count 46
theorem spl_len : ∀ (l acc : List Nat), (TL.spl [46] 0 acc l).length = dots l + 1
  | [], acc => by rw [TL.spl_nil]; rfl
  | c :: r, acc => by
    by_cases hc : c = 46
    · subst hc
      have hp : TL.pre [46] (46 :: r) = true := by simp [TL.pre]
      rw [TL.spl_hit hp, List.length_cons]
      show (TL.spl [46] 0 [] r).length + 1 = _
      rw [spl_len r []]
      simp [dots]
    · have hp : TL.pre [46] (c :: r) = false := by simp [TL.pre]; exact hc
      rw [TL.spl_miss hp, spl_len r _]
      simp [dots, List.count_cons, hc]
theorem parts_len (l : List Nat) : (parts l).length = dots l + 1 := spl_len l []
theorem count_joinL : ∀ {ps : List (List Nat)}, (∀ p ∈ ps, (46 : Nat) ∉ p) → dots (TL.joinL [46] ps) = ps.length - 1
  | [], _ => rfl
  | [p], h => by
    show List.count 46 p = 0
    exact List.count_eq_zero.mpr (h p (by simp))
  | p :: q :: r, h => by
    have ih := count_joinL (ps := q :: r) fun z hz => h z (List.mem_cons_of_mem _ hz)
    simp only [TL.joinL, dots, List.count_append] at *
    rw [ih, List.count_eq_zero.mpr (h p (by simp))]
    simp; omega
theorem dots_wr (ns : List Nat) : dots (wrL ns) ≤ ns.length - 1 := by
  unfold wrL
  by_cases hn : ns = []
  · subst hn; decide
  · rw [if_neg hn, count_joinL (by
      intro p hp
      obtain ⟨n, _, rfl⟩ := List.mem_map.mp hp
      exact free46 n), List.length_map]
    exact Nat.le_refl _
theorem joinL_len : ∀ {ps : List (List Nat)} {k : Nat}, (∀ p ∈ ps, p.length ≤ k) → (TL.joinL [46] ps).length ≤ ps.length * (k + 1)
  | [], k, _ => by simp [TL.joinL]
  | [p], k, h => by
    have := h p (by simp)
    simp [TL.joinL]; omega
  | p :: q :: r, k, h => by
    have ih := joinL_len (ps := q :: r) (k := k) fun z hz => h z (List.mem_cons_of_mem _ hz)
    have := h p (by simp)
    simp only [TL.joinL, List.length_append, List.length_cons] at *
    have e : (r.length + 1 + 1) * (k + 1) = (r.length + 1) * (k + 1) + (k + 1) := Nat.succ_mul _ _
    rw [e]; simp; omega
theorem wr_len {ns : List Nat} (h : ∀ n ∈ ns, n < 10 ^ 12) (h12 : ns.length ≤ 12) : (wrL ns).length ≤ 156 := by
  unfold wrL
  by_cases hn : ns = []
  · subst hn; decide
  · rw [if_neg hn]
    have := joinL_len (ps := ns.map numL) (k := 12) fun p hp => by
      obtain ⟨n, h1, rfl⟩ := List.mem_map.mp hp
      exact TL.numL_len (by decide) (h n h1)
    rw [List.length_map] at this
    have : ns.length * 13 ≤ 12 * 13 := Nat.mul_le_mul_right _ h12
    omega
/-- numbers, joined by dots -/
theorem tl_joinN {ns : List Nat} : tl (Txt.join dotS (ns.map nS)) = TL.joinL [46] (ns.map numL) := by
  have h1 : TL.tl (Txt.join dotS (ns.map nS)) = TL.joinL (TL.tl dotS) ((ns.map nS).map TL.tl) := by rw [TL.join_eq, TL.tl_join]
  have h2 : TL.tl dotS = [46] := tl_dot
  rw [h2, List.map_map] at h1
  have e : ns.map (TL.tl ∘ nS) = ns.map numL := List.map_congr_left fun n _ => tl_nS n
  rw [e] at h1
  exact h1
theorem sum_nS {ns : List Nat} (h : ∀ n ∈ ns, n < 10 ^ 12) : ((ns.map nS).map (·.length)).sum ≤ ns.length * 12 := by
  induction ns with
  | nil => simp
  | cons n ns ih =>
    have h1 : (nS n).length ≤ 12 := by rw [← tl_len, tl_nS]; exact TL.numL_len (by decide) (h n (by simp))
    have h2 := ih fun m hm => h m (List.mem_cons_of_mem _ hm)
    simp only [List.map_cons, List.sum_cons, List.length_cons] at *
    omega
end K74

set_option maxRecDepth 100000
set_option maxHeartbeats 4000000
namespace K74
open PySem PySem.Spec PyProof.Rows L2
/-- plain data -/
inductive Is (H : Hp) : V → PyData → Prop
  | non : Is H .non .none
  | bl (b : Bool) : Is H (.bl b) (.bool b)
  | int (i : Int) : Is H (.int i) (.int i)
  | str (z : Str) : Is H (.str z) (.str z)
  | tup {a : Addr} {xs : List V} {ds : List PyData} (h : H a = some (.tup xs)) (hl : xs.length = ds.length)
      (hi : ∀ (i : Nat) (v : V) (d : PyData), xs[i]? = some v → ds[i]? = some d → Is H v d) : Is H (.ref a) (.tuple ds)
  | lst {a : Addr} {xs : List V} {ds : List PyData} (h : H a = some (.lst xs)) (hl : xs.length = ds.length)
      (hi : ∀ (i : Nat) (v : V) (d : PyData), xs[i]? = some v → ds[i]? = some d → Is H v d) : Is H (.ref a) (.list ds)
theorem Is.mono {H H' : Hp} (s : Same H H') {v : V} {d : PyData} (h : Is H v d) : Is H' v d := by
  induction h with
  | non => exact .non
  | bl b => exact .bl b
  | int i => exact .int i
  | str z => exact .str z
  | tup h hl hi ih => exact .tup (s _ _ h) hl ih
  | lst h hl hi ih => exact .lst (s _ _ h) hl ih
theorem Is.pair {H : Hp} {a : Addr} {x y : V} {d e : PyData} (h : H a = some (.tup [x, y])) (hx : Is H x d) (hy : Is H y e) : Is H (.ref a) (.tuple [d, e]) := by
  refine .tup h rfl fun i v c h1 h2 => ?_
  match i with
  | 0 => simp at h1 h2; subst h1 h2; exact hx
  | 1 => simp at h1 h2; subst h1 h2; exact hy
  | i + 2 => simp at h1
theorem Is.trip {H : Hp} {a : Addr} {x y z : V} {d e f : PyData} (h : H a = some (.tup [x, y, z])) (hx : Is H x d) (hy : Is H y e) (hz : Is H z f) : Is H (.ref a) (.tuple [d, e, f]) := by
  refine .tup h rfl fun i v c h1 h2 => ?_
  match i with
  | 0 => simp at h1 h2; subst h1 h2; exact hx
  | 1 => simp at h1 h2; subst h1 h2; exact hy
  | 2 => simp at h1 h2; subst h1 h2; exact hz
  | i + 3 => simp at h1
theorem at_map {α : Type} {f : α → V} {g : α → PyData} {H : Hp} (hfg : ∀ x, Is H (f x) (g x)) {ns : List α} : ∀ (i : Nat) (v : V) (d : PyData), (ns.map f)[i]? = some v → (ns.map g)[i]? = some d → Is H v d := by
  intro i v d h1 h2
  rw [List.getElem?_map] at h1 h2
  cases e : ns[i]? with
  | none => rw [e] at h1; cases h1
  | some n => rw [e] at h1 h2; cases h1; cases h2; exact hfg n
theorem Is.ints {H : Hp} {a : Addr} {ns : List Nat} (h : H a = some (.tup (ns.map nv))) : Is H (.ref a) (.tuple (ns.map fun n : Nat => PyData.int (n : Int))) :=
  .tup h (by simp) (at_map fun n => .int _)
theorem Is.strs {H : Hp} {a : Addr} {zs : List Str} (h : H a = some (.lst (zs.map V.str))) : Is H (.ref a) (.list (zs.map PyData.str)) :=
  .lst h (by simp) (at_map fun n => .str _)
section
variable {P : Program} {w : World} {K : PySem.W.Frag} {mg : Str → Option Value} {base : Heap}
/-! ### _law_cell -/
def spCell (K : PySem.W.Frag) : Sp := fun vs H Q _ => ∃ (a : Addr) (ns : List Int) (k : Int), vs = [.ref a, .int k] ∧ SqL K H a (ns.map V.int) ∧ ns.length ≤ 63 ∧ 0 ≤ k ∧ ∀ c, Q (.int c) H
theorem scCell : FnScope ["_law_script", "_law_k"] ["_law_script", "_law_k"] (defScope sCell) := ⟨rfl, rfl, rfl, by decide +kernel, rfl, by decide +kernel, by decide +kernel⟩
theorem ok_cell {f : Addr} {fd : FuncData} (B : Blt mg) (F : Fun K "_law_cell" "_law_cell" sCell f fd) : FnOk P w K mg base CX0 1 f fd ["_law_script", "_law_k"] (spCell K) := by
  refine F.ok scCell (fun vs H Q E h => ?_) (fun cdv A outer s H vs Q E hr h => ?_)
  · obtain ⟨a, ns, k, rfl, _⟩ := h; rfl
  · obtain ⟨a, ns, k, rfl, hS, hlen, h0, q⟩ := h
    refine ⟨_, pss_cons (ps_if (pt_cmpR op_lt (pv 1) (pe_callB call_len (by rfl) B.len PySem.boot_len (pa_cons (pv 0) pa_nil)) (nomark _)) (pss_one (ps_ret (pe_callTy call_int1 (by rfl) B.int (by decide +kernel) (pa_cons (pe_ix ix_list (pv 0) (pv 1) (fun _ _ => rfl)) pa_nil)))) pss_nil)
      (pss_one (ps_ret pe_int)), ?_⟩
    refine ⟨.int k, rfl, .ref a, rfl, .ref a, (ns.map V.int).length, rfl, .inl ⟨_, hS, rfl⟩, k, _, rfl, rfl, _, rfl, ite2 (fun hk => ?_) (fun _ => ?_)⟩
    · have hk' : k < ((ns.map V.int).length : Int) := of_decide_eq_true hk
      rw [List.length_map] at hk'
      have hlt : k.toNat < ns.length := by omega
      exact ⟨.ref a, rfl, .int k, rfl, a, _, k, .int (ns[k.toNat]'hlt), rfl, rfl, hS, at_of (j := k.toNat) (by omega) (by rw [List.getElem?_map]; simp [hlt]), .inl ⟨_, rfl, q _⟩⟩
    · exact q _
/-! ### _law_row -/
theorem map_snoc' (rs : List Int) (r : Int) : rs.map V.int ++ [V.int r] = (rs ++ [r]).map V.int := by rw [List.map_append]; rfl
def RowOf (ls rs : List Int) : Prop := rs.length = ls.length ∧ ∀ (i : Nat) (l : Int), ls[i]? = some l → ∃ r, rs[i]? = some r ∧ 0 ≤ r ∧ r < l
def spRow (K : PySem.W.Frag) : Sp := fun vs H Q _ => ∃ (c : Int) (a : Addr) (ls : List Int), vs = [.int c, .ref a] ∧ SqL K H a (ls.map V.int) ∧ ls.length ≤ 1000 ∧ (∀ l ∈ ls, 0 < l ∧ l < 10000000000000) ∧
  ∀ H' p rs, Same H H' → H p = none → H' p = some (.lst (rs.map V.int)) → RowOf ls rs → Q (.ref p) H'
theorem scRow : FnScope ["_law_cell_here", "_law_limits", "_law_row_here", "_law_rest", "_law_limit", "_law_k", "_law_mixed"] ["_law_cell_here", "_law_limits"] (defScope sRow) := ⟨rfl, rfl, rfl, by decide +kernel, rfl, by decide +kernel, by decide +kernel⟩
theorem ok_row {f : Addr} {fd : FuncData} (B : Blt mg) (F : Fun K "_law_row" "_law_row" sRow f fd) : FnOk P w K mg base CX0 1 f fd ["_law_cell_here", "_law_limits"] (spRow K) := by
  refine F.ok scRow (fun vs H Q E h => ?_) (fun cdv A outer s H vs Q E hr h => ?_)
  · obtain ⟨c, a, ls, rfl, _⟩ := h; rfl
  · obtain ⟨c, a, ls, rfl, hS, hlen, hpos, q⟩ := h
    refine ⟨_, (pss_cons (ps_set (i := 2) scRow.nd rfl (.inl rfl) (pe_lst pa_nil))
      (pss_cons (ps_if (pt_cmpR op_ge (pv 0) pe_int (nomark _))
      (pss_cons (ps_set (i := 3) scRow.nd rfl (.inl rfl) (pe_op op_sub (pv 0) pe_int))
       (pss_cons (ps_for (PassesOwn.never) rfl (pi_list (pv 1)) (pg_name (i := 4) scRow.nd rfl (.inl rfl))
       (pss_cons (ps_expr (pe_bm PySem.F.plainAttrs_list PySem.F.slot_list_append PySem.F.type_list_append mt_append (pv 2) (pa_cons (pe_op op_modN (pe_callTy call_int1 (by rfl) B.int (by decide +kernel) (pa_cons (pv 3) pa_nil)) (pv 4)) pa_nil)))
        (pss_one (ps_set (i := 3) scRow.nd rfl (.inl rfl) (pe_op op_fdivW (pv 3) (pv 4))))))
       (pss_one (ps_ret (pv 2)))))
      pss_nil)
      (pss_cons (ps_for (PassesOwn.never) rfl (pi_range1 (by rfl) B.range (pa_cons (pe_callB call_len (by rfl) B.len PySem.boot_len (pa_cons (pv 1) pa_nil)) pa_nil)) (pg_name (i := 5) scRow.nd rfl (.inl rfl))
      (pss_cons (ps_set (i := 6) scRow.nd rfl (.inl rfl) (pe_op op_modN (pe_callTy call_int1 (by rfl) B.int (by decide +kernel) (pa_cons (pe_op op_add (pe_op op_add (pe_op op_mul (pv 0) pe_int) (pe_op op_mul (pv 5) pe_int)) pe_int) pa_nil)) pe_int))
       (pss_cons (ps_set (i := 6) scRow.nd rfl (.inl rfl) (pe_op op_modN (pe_callTy call_int1 (by rfl) B.int (by decide +kernel) (pa_cons (pe_op op_add (pe_op op_add (pe_op op_mul (pv 6) (pe_op op_add pe_int (pe_op op_mul pe_int (pv 5)))) (pe_op op_mul (pe_op op_mul (pv 5) (pv 5)) pe_int)) pe_int) pa_nil)) pe_int))
       (pss_one (ps_expr (pe_bm PySem.F.plainAttrs_list PySem.F.slot_list_append PySem.F.type_list_append mt_append (pv 2) (pa_cons (pe_op op_modN (pe_callTy call_int1 (by rfl) B.int (by decide +kernel) (pa_cons (pe_op op_fdivN (pv 6) pe_int) pa_nil)) (pe_ix ix_list (pv 1) (pv 5) (fun _ _ => rfl))) pa_nil)))))))
      (pss_one (ps_ret (pv 2)))))), ?_⟩
    refine ⟨Nat.zero_le _, fun o no => ?_⟩
    have s1 : Same H (upd H o (.lst [])) := same_new no
    have eo : (upd H o (.lst [])) o = some (.lst (([] : List Int).map V.int)) := upd_same
    generalize upd H o (.lst []) = H1 at s1 eo ⊢
    have more : ∀ (n : Nat) (rs : List Int) (l : Int), ls[n]? = some l → rs.length = n → (∀ (i : Nat) (l : Int), i < n → ls[i]? = some l → ∃ r, rs[i]? = some r ∧ 0 ≤ r ∧ r < l) → ∀ x : Int, ∀ (i : Nat) (m : Int), i < n + 1 → ls[i]? = some m → ∃ r, (rs ++ [x.fmod l])[i]? = some r ∧ 0 ≤ r ∧ r < m := by
      intro n rs l hl hrs hrow x i m hi hm
      have hp := hpos l (List.mem_of_getElem? hl)
      by_cases hin : i < n
      · obtain ⟨r, h1, h2, h3⟩ := hrow i m hin hm
        exact ⟨r, by rw [List.getElem?_append_left (by omega)]; exact h1, h2, h3⟩
      · obtain rfl : i = n := by omega
        rw [hl] at hm; cases hm
        exact ⟨_, by rw [List.getElem?_append_right (by omega), hrs, Nat.sub_self]; rfl, Int.fmod_nonneg_of_pos _ hp.1, Int.fmod_lt_of_pos _ hp.1⟩
    refine ⟨.int c, rfl, c, 1000000000000000000, rfl, rfl, _, rfl, ite2 (fun _ => ?_) (fun _ => ?_)⟩
    · refine ⟨.int c, rfl, c, 1000000000000000000, rfl, rfl, .ref a, rfl, a, rfl, ⟨_, s1.seq hS⟩, for_list (K := K) (a := a) (xs := ls.map V.int) (fun n σ H' => ∃ (rest : Int) (y4 y5 y6 : Option V) (rs : List Int), σ = [some (.int c), some (.ref a), some (.ref o), some (.int rest), y4, y5, y6] ∧ Same H H' ∧ H' o = some (.lst (rs.map V.int)) ∧ rs.length = n ∧
        ∀ (i : Nat) (l : Int), i < n → ls[i]? = some l → ∃ r, rs[i]? = some r ∧ 0 ≤ r ∧ r < l) ⟨_, none, none, none, [], rfl, s1, eo, rfl, fun i l h => absurd h (Nat.not_lt_zero i)⟩ (fun n σ H' _ ⟨_, _, _, _, _, _, sm, _⟩ => sm.seq hS) ?_ ?_⟩
      · rintro n x σ H' hn ⟨rest, y4, y5, y6, rs, rfl, sm, ho, hl, hrow⟩
        rw [List.getElem?_map] at hn
        cases en : ls[n]? with
        | none => rw [en] at hn; cases hn
        | some l =>
        rw [en] at hn; cases hn
        have hp := hpos l (List.mem_of_getElem? en)
        have hlt := (List.getElem?_eq_some_iff.mp en).1
        have hsz : (rs.map V.int).length < sizeLine := by rw [List.length_map]; exact small1000 (by omega)
        refine ⟨.ref o, rfl, .inl ⟨rfl, _, SqL.of ho⟩, .int rest, rfl, .inl ⟨rest, rfl, .int l, rfl, rest, l, rfl, rfl, by omega, o, _, _, rfl, rfl, ho, hsz, ?_⟩⟩
        refine ⟨.int rest, rfl, .int l, rfl, rest, l, rfl, rfl, wide_div (b := 44) (by omega) (by omega) (by decide) (by decide), ?_⟩
        exact ⟨_, _, _, _, _, rfl, same_at sm no, by rw [upd_same, map_snoc'], by rw [List.length_append, hl]; rfl, more n rs l en hl hrow rest⟩
      · rintro σ H' ⟨rest, y4, y5, y6, rs, rfl, sm, ho, hl, hrow⟩
        rw [List.length_map] at hl hrow
        exact ⟨.ref o, rfl, q H' o rs sm no ho ⟨hl, fun i l hli => hrow i l (List.getElem?_eq_some_iff.mp hli).1 hli⟩⟩
    · refine ⟨.ref a, rfl, .ref a, (ls.map V.int).length, rfl, .inl ⟨_, s1.seq hS, rfl⟩, ((ls.map V.int).length : Int), rfl, by omega, by rw [List.length_map]; omega, ?_⟩
      rw [Int.toNat_natCast, List.length_map]
      refine for_range (lo := 0) (n := ls.length) (fun n σ H' => ∃ (y3 y4 y5 y6 : Option V) (rs : List Int), σ = [some (.int c), some (.ref a), some (.ref o), y3, y4, y5, y6] ∧ Same H H' ∧ H' o = some (.lst (rs.map V.int)) ∧ rs.length = n ∧
        ∀ (i : Nat) (l : Int), i < n → ls[i]? = some l → ∃ r, rs[i]? = some r ∧ 0 ≤ r ∧ r < l) ⟨none, none, none, none, [], rfl, s1, eo, rfl, fun i l h => absurd h (Nat.not_lt_zero i)⟩ ?_ ?_
      · rintro n σ H' hn ⟨y3, y4, y5, y6, rs, rfl, sm, ho, hl, hrow⟩
        have e0 : (0 : Int) + (n : Int) = (n : Int) := by omega
        rw [e0]
        have hSn : SqL K H' a (ls.map V.int) := sm.seq hS
        have en : ls[n]? = some (ls[n]'hn) := by simp [hn]
        have hat : (ls.map V.int)[n]? = some (.int (ls[n]'hn)) := by rw [List.getElem?_map, en]; rfl
        have hp := hpos (ls[n]'hn) (List.getElem_mem hn)
        have hsz : (rs.map V.int).length < sizeLine := by rw [List.length_map]; exact small1000 (by omega)
        refine ⟨.int c, rfl, c, 48271, rfl, rfl, .inr ⟨by decide, by decide⟩, .int (n : Int), rfl, (n : Int), 69621, rfl, rfl, .inr ⟨by decide, by decide⟩, _, _, rfl, rfl, _, 11, rfl, rfl, .inl ⟨_, rfl, _, 2147483647, rfl, rfl, (show (2147483647 : Int) ≠ 0 by decide), ?_⟩⟩
        have hm0 : 0 ≤ (c * 48271 + (n : Int) * 69621 + 11).fmod 2147483647 := Int.fmod_nonneg_of_pos _ (by decide)
        have hm1 : (c * 48271 + (n : Int) * 69621 + 11).fmod 2147483647 < 2147483647 := Int.fmod_lt_of_pos _ (by decide)
        refine ⟨_, rfl, .int (n : Int), rfl, 2, (n : Int), rfl, rfl, .inl ⟨by decide, by decide⟩, 16807, _, rfl, rfl, (c * 48271 + (n : Int) * 69621 + 11).fmod 2147483647, _, rfl, rfl, .inl ⟨Int.lt_of_lt_of_le (by decide) hm0, Int.lt_trans hm1 (by decide)⟩, .int (n : Int), rfl, .int (n : Int), rfl, (n : Int), (n : Int), rfl, rfl, .inl ⟨by omega, by omega⟩, _, 40692, rfl, rfl, .inr ⟨by decide, by decide⟩, _, _, rfl, rfl, _, 7, rfl, rfl, .inl ⟨_, rfl, _, 2147483399, rfl, rfl, (show (2147483399 : Int) ≠ 0 by decide), ?_⟩⟩
        refine ⟨.ref o, rfl, .inl ⟨rfl, _, SqL.of ho⟩, _, rfl, _, 31, rfl, rfl, ⟨by decide, by decide⟩, .inl ⟨_, rfl, .ref a, rfl, .int (n : Int), rfl, a, _, (n : Int), .int (ls[n]'hn), rfl, rfl, hSn, atI_nat hat, _, ls[n]'hn, rfl, rfl, by omega, o, _, _, rfl, rfl, ho, hsz, ?_⟩⟩
        exact ⟨_, _, _, _, _, rfl, same_at sm no, by rw [upd_same, map_snoc'], by rw [List.length_append, hl]; rfl, more n rs _ en hl hrow _⟩
      · rintro σ H' ⟨y3, y4, y5, y6, rs, rfl, sm, ho, hl, hrow⟩
        exact ⟨.ref o, rfl, q H' o rs sm no ho ⟨hl, fun i l hli => hrow i l (List.getElem?_eq_some_iff.mp hli).1 hli⟩⟩

/-! ### _law_same -/
theorem ty_tup {H : Hp} {a : Addr} {xs : List V} (h : H a = some (.tup xs)) : TyX K H (.ref a) (.type "tuple") := .base (.tup h)
theorem ty_lst {H : Hp} {a : Addr} {xs : List V} (h : H a = some (.lst xs)) : TyX K H (.ref a) (.type "list") := .base (.lst h)
theorem ty_txt {H : Hp} {z : Str} : TyX K H (.str z) (.type "str") := .base (.str z)
/-- of depth below n -/
def DepLt : Nat → PyData → Prop
  | 0, _ => False
  | n + 1, .tuple ds => ds.length ≤ 2000 ∧ ∀ d ∈ ds, DepLt n d
  | n + 1, .list ds => ds.length ≤ 2000 ∧ ∀ d ∈ ds, DepLt n d
  | _ + 1, _ => True
def spSame (n : Nat) : Sp := fun vs H Q _ => ∃ (x y : V) (d : PyData), vs = [x, y] ∧ Is H x d ∧ Is H y d ∧ DepLt n d ∧ Q (.bl true) H
theorem scSame : FnScope ["_law_one", "_law_two", "_law_k"] ["_law_one", "_law_two"] (defScope sSame) := ⟨rfl, rfl, rfl, by decide +kernel, rfl, by decide +kernel, by decide +kernel⟩
theorem ok_same {f_same : Addr} {fd : FuncData} (B : Blt mg) (F_same : Fun K "_law_same" "_law_same" sSame f_same fd) (b_same : Binds K fd ["_law_one", "_law_two"] []) (g_same : mg "_law_same" = some (.ref f_same)) : ∀ n, FnOk P w K mg base CX0 (n + 1) f_same fd ["_law_one", "_law_two"] (spSame n)
  | 0 => F_same.ok scSame (fun vs H Q E h => by obtain ⟨x, y, d, _, _, _, h, _⟩ := h; exact h.elim) (fun cdv A outer s H vs Q E hr h => by obtain ⟨x, y, d, _, _, _, h, _⟩ := h; exact h.elim)
  | n + 1 => by
    have G_same := ok_same B F_same b_same g_same n
    refine F_same.ok scSame (fun vs H Q E h => ?_) (fun cdv A outer s H vs Q E hr h => ?_)
    · obtain ⟨x, y, d, rfl, _⟩ := h; rfl
    · obtain ⟨x, y, d, rfl, hx, hy, hd, q⟩ := h
      refine ⟨_, (pss_cons (ps_if (pt_cmpR op_isN (pv 1) pe_non (nomark _))
      (pss_one (ps_ret (pe_cmpR op_isN (pv 0) pe_non (nomark _))))
      pss_nil)
      (pss_cons (ps_if (pt_val (pe_callB call_isi (by rfl) B.isi (by decide +kernel) (pa_cons (pv 1) (pa_cons (pe_bltn (v := .ty "bool") (by rfl) B.bool (by decide +kernel) rfl) pa_nil))))
      (pss_one (ps_ret (pe_and (pe_callB call_isi (by rfl) B.isi (by decide +kernel) (pa_cons (pv 0) (pa_cons (pe_bltn (v := .ty "bool") (by rfl) B.bool (by decide +kernel) rfl) pa_nil))) (pe_one (pe_cmpR op_eq (pv 0) (pv 1) (nomark _))))))
      pss_nil)
      (pss_cons (ps_if (pt_val (pe_callB call_isi (by rfl) B.isi (by decide +kernel) (pa_cons (pv 1) (pa_cons (pe_bltn (v := .ty "int") (by rfl) B.int (by decide +kernel) rfl) pa_nil))))
      (pss_one (ps_ret (pe_and (pe_callB call_isi (by rfl) B.isi (by decide +kernel) (pa_cons (pv 0) (pa_cons (pe_bltn (v := .ty "int") (by rfl) B.int (by decide +kernel) rfl) pa_nil))) (pe_and (pe_not (pe_callB call_isi (by rfl) B.isi (by decide +kernel) (pa_cons (pv 0) (pa_cons (pe_bltn (v := .ty "bool") (by rfl) B.bool (by decide +kernel) rfl) pa_nil)))) (pe_one (pe_cmpR op_eq (pv 0) (pv 1) (nomark _)))))))
      pss_nil)
      (pss_cons (ps_if (pt_val (pe_callB call_isi (by rfl) B.isi (by decide +kernel) (pa_cons (pv 1) (pa_cons (pe_bltn (v := .ty "str") (by rfl) B.str (by decide +kernel) rfl) pa_nil))))
      (pss_one (ps_ret (pe_and (pe_callB call_isi (by rfl) B.isi (by decide +kernel) (pa_cons (pv 0) (pa_cons (pe_bltn (v := .ty "str") (by rfl) B.str (by decide +kernel) rfl) pa_nil))) (pe_one (pe_cmpR op_eq (pv 0) (pv 1) (nomark _))))))
      pss_nil)
      (pss_cons (ps_if (PW.pt (pw_and (pt_val (pe_callB call_isi (by rfl) B.isi (by decide +kernel) (pa_cons (pv 1) (pa_cons (pe_bltn (v := .ty "tuple") (by rfl) B.tuple (by decide +kernel) rfl) pa_nil)))) (pw_and1 (pt_not (pt_val (pe_callB call_isi (by rfl) B.isi (by decide +kernel) (pa_cons (pv 0) (pa_cons (pe_bltn (v := .ty "tuple") (by rfl) B.tuple (by decide +kernel) rfl) pa_nil))))))))
      (pss_one (ps_ret pe_bl))
      pss_nil)
      (pss_cons (ps_if (PW.pt (pw_and (pt_val (pe_callB call_isi (by rfl) B.isi (by decide +kernel) (pa_cons (pv 1) (pa_cons (pe_bltn (v := .ty "list") (by rfl) B.list (by decide +kernel) rfl) pa_nil)))) (pw_and1 (pt_not (pt_val (pe_callB call_isi (by rfl) B.isi (by decide +kernel) (pa_cons (pv 0) (pa_cons (pe_bltn (v := .ty "list") (by rfl) B.list (by decide +kernel) rfl) pa_nil))))))))
      (pss_one (ps_ret pe_bl))
      pss_nil)
      (pss_cons (ps_if (PW.pt (pw_or (pt_val (pe_callB call_isi (by rfl) B.isi (by decide +kernel) (pa_cons (pv 1) (pa_cons (pe_bltn (v := .ty "tuple") (by rfl) B.tuple (by decide +kernel) rfl) pa_nil)))) (pw_or1 (pt_val (pe_callB call_isi (by rfl) B.isi (by decide +kernel) (pa_cons (pv 1) (pa_cons (pe_bltn (v := .ty "list") (by rfl) B.list (by decide +kernel) rfl) pa_nil)))))))
      (pss_cons (ps_if (pt_cmpR op_ne (pe_callB call_len (by rfl) B.len PySem.boot_len (pa_cons (pv 0) pa_nil)) (pe_callB call_len (by rfl) B.len PySem.boot_len (pa_cons (pv 1) pa_nil)) (nomark _))
       (pss_one (ps_ret pe_bl))
       pss_nil)
       (pss_cons (ps_for (PassesOwn.never) rfl (pi_range1 (by rfl) B.range (pa_cons (pe_callB call_len (by rfl) B.len PySem.boot_len (pa_cons (pv 1) pa_nil)) pa_nil)) (pg_name (i := 2) scSame.nd rfl (.inl rfl))
       (pss_one (ps_if (pt_not (pt_val (pe_call G_same hr (by rfl) g_same F_same.kp b_same .nil pass0 (pa_cons (pe_ix (ix_list.or ix_tup) (pv 0) (pv 2) (fun _ _ => rfl)) (pa_cons (pe_ix (ix_list.or ix_tup) (pv 1) (pv 2) (fun _ _ => rfl)) pa_nil)))))
        (pss_one (ps_ret pe_bl))
        pss_nil)))
       (pss_one (ps_ret pe_bl))))
      pss_nil)
      (pss_one (ps_ret pe_bl))))))))), ?_⟩
      cases hy with
      | non => cases hx; exact ⟨.non, rfl, rfl, _, rfl, iteT ⟨.non, rfl, rfl, q⟩⟩
      | bl b =>
        cases hx
        refine ⟨.bl b, rfl, rfl, _, rfl, iteF ?_⟩
        refine ⟨.bl b, rfl, .bl b, .ty "bool", .type "bool", .type "bool", true, rfl, .ty "bool", .base (.bl b), kit_ty (by decide +kernel), _, rfl, iteT ?_⟩
        refine ⟨.bl b, rfl, .bl b, .ty "bool", .type "bool", .type "bool", true, rfl, .ty "bool", .base (.bl b), kit_ty (by decide +kernel), _, rfl, iteT ?_⟩
        refine ⟨.bl b, rfl, .bl b, rfl, rfl, ?_⟩
        rw [decide_eq_true rfl]; exact q
      | str z =>
        cases hx
        refine ⟨.str z, rfl, rfl, _, rfl, iteF ?_⟩
        refine ⟨.str z, rfl, .str z, .ty "bool", .type "str", .type "bool", false, rfl, .ty "bool", ty_txt, kit_ty (by decide +kernel), _, rfl, iteF ?_⟩
        refine ⟨.str z, rfl, .str z, .ty "int", .type "str", .type "int", false, rfl, .ty "int", ty_txt, kit_ty (by decide +kernel), _, rfl, iteF ?_⟩
        refine ⟨.str z, rfl, .str z, .ty "str", .type "str", .type "str", true, rfl, .ty "str", ty_txt, kit_ty (by decide +kernel), _, rfl, iteT ?_⟩
        refine ⟨.str z, rfl, .str z, .ty "str", .type "str", .type "str", true, rfl, .ty "str", ty_txt, kit_ty (by decide +kernel), _, rfl, iteT ?_⟩
        refine ⟨.str z, rfl, .str z, rfl, rfl, ?_⟩
        rw [decide_eq_true rfl]; exact q
      | int i =>
        cases hx
        refine ⟨.int i, rfl, rfl, _, rfl, iteF ?_⟩
        refine ⟨.int i, rfl, .int i, .ty "bool", .type "int", .type "bool", false, rfl, .ty "bool", .base (.int i), kit_ty (by decide +kernel), _, rfl, iteF ?_⟩
        refine ⟨.int i, rfl, .int i, .ty "int", .type "int", .type "int", true, rfl, .ty "int", .base (.int i), kit_ty (by decide +kernel), _, rfl, iteT ?_⟩
        refine ⟨.int i, rfl, .int i, .ty "int", .type "int", .type "int", true, rfl, .ty "int", .base (.int i), kit_ty (by decide +kernel), _, rfl, iteT ?_⟩
        refine ⟨.int i, rfl, .int i, .ty "bool", .type "int", .type "bool", false, rfl, .ty "bool", .base (.int i), kit_ty (by decide +kernel), _, rfl, _, rfl, iteT ?_⟩
        refine ⟨.int i, rfl, .int i, rfl, rfl, ?_⟩
        rw [decide_eq_true rfl]; exact q
      | @tup a2 ys ds h2 hl2 hi2 =>
        cases hx with
        | @tup a1 xs _ h1 hl1 hi1 =>
        have hds : ds.length ≤ 2000 := hd.1
        refine ⟨.ref a2, rfl, rfl, _, rfl, iteF ?_⟩
        refine ⟨.ref a2, rfl, .ref a2, .ty "bool", .type "tuple", .type "bool", false, rfl, .ty "bool", ty_tup h2, kit_ty (by decide +kernel), _, rfl, iteF ?_⟩
        refine ⟨.ref a2, rfl, .ref a2, .ty "int", .type "tuple", .type "int", false, rfl, .ty "int", ty_tup h2, kit_ty (by decide +kernel), _, rfl, iteF ?_⟩
        refine ⟨.ref a2, rfl, .ref a2, .ty "str", .type "tuple", .type "str", false, rfl, .ty "str", ty_tup h2, kit_ty (by decide +kernel), _, rfl, iteF ?_⟩
        refine ⟨.ref a2, rfl, .ref a2, .ty "tuple", .type "tuple", .type "tuple", true, rfl, .ty "tuple", ty_tup h2, kit_ty (by decide +kernel), _, rfl, iteT ?_⟩
        refine ⟨.ref a1, rfl, .ref a1, .ty "tuple", .type "tuple", .type "tuple", true, rfl, .ty "tuple", ty_tup h1, kit_ty (by decide +kernel), _, rfl, iteF ?_⟩
        refine ⟨.ref a2, rfl, .ref a2, .ty "list", .type "tuple", .type "list", false, rfl, .ty "list", ty_tup h2, kit_ty (by decide +kernel), _, rfl, iteF ?_⟩
        refine ⟨.ref a2, rfl, .ref a2, .ty "tuple", .type "tuple", .type "tuple", true, rfl, .ty "tuple", ty_tup h2, kit_ty (by decide +kernel), _, rfl, iteT ?_⟩
        refine ⟨.ref a1, rfl, .ref a1, xs.length, rfl, .inr ⟨_, SqT.of h1, rfl⟩, .ref a2, rfl, .ref a2, ys.length, rfl, .inr ⟨_, SqT.of h2, rfl⟩, rfl, _, rfl, ?_⟩
        rw [decide_eq_true (show V.int (xs.length : Int) = V.int (ys.length : Int) by rw [hl1, hl2])]
        refine iteF ⟨.ref a2, rfl, .ref a2, ys.length, rfl, .inr ⟨_, SqT.of h2, rfl⟩, (ys.length : Int), rfl, by omega, by omega, ?_⟩
        rw [Int.toNat_natCast]
        refine for_range (lo := 0) (n := ys.length) (fun n σ H' => ∃ y, σ = [some (.ref a1), some (.ref a2), y] ∧ H' = H) ⟨none, rfl, rfl⟩ ?_ ?_
        · rintro k σ H' hk ⟨y, rfl, rfl⟩
          have e0 : (0 : Int) + (k : Int) = (k : Int) := by omega
          rw [e0]
          have g1 : xs[k]? = some (xs[k]'(by omega)) := by simp
          have g2 : ys[k]? = some (ys[k]'hk) := by simp
          have g3 : ds[k]? = some (ds[k]'(by omega)) := by simp
          refine ⟨.ref a1, rfl, .int (k : Int), rfl, .inr ⟨a1, xs, (k : Int), _, rfl, rfl, SqT.of h1, atI_nat g1, .ref a2, rfl, .int (k : Int), rfl, .inr ⟨a2, ys, (k : Int), _, rfl, rfl, SqT.of h2, atI_nat g2, ?_⟩⟩⟩
          have hm : ds[k]'(by omega) ∈ ds := List.getElem_mem _
          exact ⟨_, _, _, rfl, hi1 k _ _ g1 g3, hi2 k _ _ g2 g3, hd.2 _ hm, true, rfl, iteF ⟨_, rfl, rfl⟩⟩
        · rintro σ H' ⟨y, rfl, rfl⟩
          exact q
      | @lst a2 ys ds h2 hl2 hi2 =>
        cases hx with
        | @lst a1 xs _ h1 hl1 hi1 =>
        have hds : ds.length ≤ 2000 := hd.1
        refine ⟨.ref a2, rfl, rfl, _, rfl, iteF ?_⟩
        refine ⟨.ref a2, rfl, .ref a2, .ty "bool", .type "list", .type "bool", false, rfl, .ty "bool", ty_lst h2, kit_ty (by decide +kernel), _, rfl, iteF ?_⟩
        refine ⟨.ref a2, rfl, .ref a2, .ty "int", .type "list", .type "int", false, rfl, .ty "int", ty_lst h2, kit_ty (by decide +kernel), _, rfl, iteF ?_⟩
        refine ⟨.ref a2, rfl, .ref a2, .ty "str", .type "list", .type "str", false, rfl, .ty "str", ty_lst h2, kit_ty (by decide +kernel), _, rfl, iteF ?_⟩
        refine ⟨.ref a2, rfl, .ref a2, .ty "tuple", .type "list", .type "tuple", false, rfl, .ty "tuple", ty_lst h2, kit_ty (by decide +kernel), _, rfl, iteF ?_⟩
        refine ⟨.ref a2, rfl, .ref a2, .ty "list", .type "list", .type "list", true, rfl, .ty "list", ty_lst h2, kit_ty (by decide +kernel), _, rfl, iteT ?_⟩
        refine ⟨.ref a1, rfl, .ref a1, .ty "list", .type "list", .type "list", true, rfl, .ty "list", ty_lst h1, kit_ty (by decide +kernel), _, rfl, iteF ?_⟩
        refine ⟨.ref a2, rfl, .ref a2, .ty "tuple", .type "list", .type "tuple", false, rfl, .ty "tuple", ty_lst h2, kit_ty (by decide +kernel), _, rfl, iteF ?_⟩
        refine ⟨.ref a2, rfl, .ref a2, .ty "list", .type "list", .type "list", true, rfl, .ty "list", ty_lst h2, kit_ty (by decide +kernel), _, rfl, iteT ?_⟩
        refine ⟨.ref a1, rfl, .ref a1, xs.length, rfl, .inl ⟨_, SqL.of h1, rfl⟩, .ref a2, rfl, .ref a2, ys.length, rfl, .inl ⟨_, SqL.of h2, rfl⟩, rfl, _, rfl, ?_⟩
        rw [decide_eq_true (show V.int (xs.length : Int) = V.int (ys.length : Int) by rw [hl1, hl2])]
        refine iteF ⟨.ref a2, rfl, .ref a2, ys.length, rfl, .inl ⟨_, SqL.of h2, rfl⟩, (ys.length : Int), rfl, by omega, by omega, ?_⟩
        rw [Int.toNat_natCast]
        refine for_range (lo := 0) (n := ys.length) (fun n σ H' => ∃ y, σ = [some (.ref a1), some (.ref a2), y] ∧ H' = H) ⟨none, rfl, rfl⟩ ?_ ?_
        · rintro k σ H' hk ⟨y, rfl, rfl⟩
          have e0 : (0 : Int) + (k : Int) = (k : Int) := by omega
          rw [e0]
          have g1 : xs[k]? = some (xs[k]'(by omega)) := by simp
          have g2 : ys[k]? = some (ys[k]'hk) := by simp
          have g3 : ds[k]? = some (ds[k]'(by omega)) := by simp
          refine ⟨.ref a1, rfl, .int (k : Int), rfl, .inl ⟨a1, xs, (k : Int), _, rfl, rfl, SqL.of h1, atI_nat g1, .ref a2, rfl, .int (k : Int), rfl, .inl ⟨a2, ys, (k : Int), _, rfl, rfl, SqL.of h2, atI_nat g2, ?_⟩⟩⟩
          have hm : ds[k]'(by omega) ∈ ds := List.getElem_mem _
          exact ⟨_, _, _, rfl, hi1 k _ _ g1 g3, hi2 k _ _ g2 g3, hd.2 _ hm, true, rfl, iteF ⟨_, rfl, rfl⟩⟩
        · rintro σ H' ⟨y, rfl, rfl⟩
          exact q
end
end K74

set_option maxRecDepth 100000
set_option maxHeartbeats 4000000
namespace K74
open PySem PySem.Spec PyProof.Rows L2
theorem numOf_nil {l : List Nat} (h : l = []) : numOf l = none := by unfold numOf; rw [if_pos (.inl h)]
theorem numOf_long {l : List Nat} (h : 12 < l.length) : numOf l = none := by unfold numOf; rw [if_pos (.inr (.inl h))]
theorem numOf_zero {l : List Nat} (h : 1 < l.length) (h' : l.head? = some 48) : numOf l = none := by unfold numOf; rw [if_pos (.inr (.inr (.inl ⟨h, h'⟩)))]
theorem numOf_bad {l : List Nat} (h : l.all isD = false) : numOf l = none := by unfold numOf; rw [if_pos (.inr (.inr (.inr h)))]
theorem numOf_ok {l : List Nat} (h1 : l ≠ []) (h2 : l.length ≤ 12) (h3 : 1 < l.length → l.head? ≠ some 48) (h4 : l.all isD = true) : numOf l = some (NumText.digitsVal l) := by
  unfold numOf; rw [if_neg]
  rintro (h | h | ⟨h, h'⟩ | h)
  · exact h1 h
  · omega
  · exact h3 h h'
  · rw [h4] at h; cases h
theorem int_of {z : Str} (h1 : tl z ≠ []) (h2 : z.length ≤ 12) (h4 : (tl z).all isD = true) : intText? z = some ((NumText.digitsVal (tl z) : Nat) : Int) :=
  intText_digits (isD_all.mp h4) h1 (by omega)
theorem head_at {z : Str} {c : Nat} (h : (tl z)[0]? = some c) : (tl z).head? = some c := by rw [List.head?_eq_getElem?]; exact h
theorem e0S : Str.ofString "0" = ⟨#[48]⟩ := by decide +kernel
theorem eqZ {z : Str} {c : Nat} (h : (tl z)[0]? = some c) (hc : c = 48) : decide (V.str z = V.str ⟨#[48]⟩) = !decide (1 < z.length) := by
  rw [eqT]
  have hl := tl_len z
  by_cases h1 : 1 < z.length
  · rw [decide_eq_true h1, decide_eq_false]; · rfl
    intro e; rw [e] at hl; simp [tl] at hl; omega
  · rw [decide_eq_false h1, decide_eq_true]; · rfl
    have h2 := (List.getElem?_eq_some_iff.mp h).1
    match ht : tl z, h, h2, hl with
    | [x], h, _, _ => simp at h; subst h; subst hc; rfl
    | x :: y :: r, _, _, hl => simp at hl; omega
theorem share {G E : Prop} (hE : E) (h : E → G) : G := h hE
theorem take_mapD (l : List Nat) {i c : Nat} (h : l[i]? = some c) : (l.take i).map isD ++ [isD c] = (l.take (i + 1)).map isD := by
  rw [List.take_add_one, h, List.map_append]; rfl
section
variable {P : Program} {w : World} {K : PySem.W.Frag} {mg : Str → Option Value} {base : Heap} {t1 t2 t3 : Tok}
/-! ### _is_digit -/
def spDigit : Sp := fun vs H Q _ => ∃ (c : Nat), vs = [.str ⟨#[c]⟩] ∧ Q (.bl (isD c)) H
theorem scDigit : FnScope ["char"] ["char"] (defScope sDigit) := ⟨rfl, rfl, rfl, by decide +kernel, rfl, by decide +kernel, by decide +kernel⟩
theorem ok_digit {f : Addr} {fd : FuncData} (F : Fun K "_is_digit" "_is_digit" sDigit f fd) : FnOk P w K mg base CX0 1 f fd ["char"] spDigit := by
  refine F.ok scDigit (fun vs H Q E h => ?_) (fun cdv A outer s H vs Q E hr h => ?_)
  · obtain ⟨c, rfl, _⟩ := h; rfl
  · obtain ⟨x, rfl, q⟩ := h
    refine ⟨_, pss_one (ps_ret (pe_chain op_le_str op_le_str pe_str (pv 0) pe_str)), ?_⟩
    refine ⟨.str ⟨#[x]⟩, rfl, _, ⟨#[x]⟩, rfl, rfl, _, rfl, ?_⟩
    have hc : (⟨#[x]⟩ : Str).cps.toList = [x] := rfl
    have e : (!decide ((⟨#[x]⟩ : Str).cps.toList < (Str.ofString "0").cps.toList)) = decide (48 ≤ x) := by rw [hc, show (Str.ofString "0").cps.toList = [48] by decide +kernel, lt_one, Bool.not_not]
    have e2 : (!decide ((Str.ofString "9").cps.toList < (⟨#[x]⟩ : Str).cps.toList)) = decide (x ≤ 57) := by rw [hc, show (Str.ofString "9").cps.toList = [57] by decide +kernel, lt_one, Bool.not_not]
    rw [e]
    refine ite2 (fun h => ?_) (fun h => ?_)
    · refine ⟨⟨#[x]⟩, _, rfl, rfl, ?_⟩
      rw [e2]; unfold isD at q; rw [h, Bool.true_and] at q; exact q
    · have h' : decide (48 ≤ x) = false := by simpa using h
      unfold isD at q; rw [h', Bool.false_and] at q; exact q
/-! ### read_number -/
def spNum : Sp := fun vs H Q _ => ∃ (z : Str), vs = [.str z] ∧ z.length ≤ 1000 ∧ ∀ H', Same H H' → Q (ov (numOf (tl z))) H'
abbrev nNum : List Str := ["word", "char"]
theorem scNum : FnScope nNum ["word"] (defScope sNum) := ⟨rfl, rfl, rfl, by decide +kernel, rfl, by decide +kernel, by decide +kernel⟩
theorem ok_num {f f_is_digit : Addr} {fd fd_is_digit : FuncData} (B : Blt mg) (Z : Cst mg t1 t2 t3) (F : Fun K "read_number" "read_number" sNum f fd)
    (F_is_digit : Fun K "_is_digit" "_is_digit" sDigit f_is_digit fd_is_digit) (b_is_digit : Binds K fd_is_digit ["char"] []) (g_is_digit : mg "_is_digit" = some (.ref f_is_digit)) :
    FnOk P w K mg base CX0 2 f fd ["word"] spNum := by
  have G_is_digit : FnOk P w K mg base CX0 1 f_is_digit fd_is_digit ["char"] spDigit := ok_digit F_is_digit
  refine F.ok scNum (fun vs H Q E h => ?_) (fun cdv A0 outer s H vs Q E hr h => ?_)
  · obtain ⟨z, rfl, _⟩ := h; rfl
  · obtain ⟨z, rfl, hz, q⟩ := h
    refine ⟨_, (pss_cons (ps_if (PW.pt (pw_or (pt_not (pt_chain op_le op_le pe_int (pe_callB call_len (by rfl) B.len PySem.boot_len (pa_cons (pv 0) pa_nil)) (pe_glob (v := .int 12) (by rfl) Z.g_LONGEST_NUMBER ⟨_, rfl⟩))) (pw_or1 (PW.pt (pw_and (pt_cmpR op_eq (pe_ix ix_str (pv 0) pe_int (fun _ _ => rfl)) pe_str (nomark _)) (pw_and1 (pt_cmpR op_ne (pv 0) pe_str (nomark _))))))))
      (pss_one (ps_ret pe_non))
      pss_nil)
      (pss_cons (ps_if (pt_not (pt_val (pe_callB (cr_all rfl) (by rfl) B.all (by decide +kernel) (pa_cons (pe_lc (own := [("char", 1)]) (g := gName 1) (tt := tYes) rfl scNum.nd (pi_str (pv 0)) (blkOk_by (N := nNum) (sc := defScope sNum) (by decide +kernel)) (fun _ _ _ _ _ => (pg_name (i := 1) scNum.nd rfl (.inl rfl))) (fun _ _ _ _ _ => pts_nil) (fun _ _ _ _ _ => (pe_call G_is_digit hr (by rfl) g_is_digit F_is_digit.kp b_is_digit .nil pass0 (pa_cons (pv 1) pa_nil)))) pa_nil))))
      (pss_one (ps_ret pe_non))
      pss_nil)
      (pss_one (ps_ret (pe_callTy call_int_str (by rfl) B.int (by decide +kernel) (pa_cons (pv 0) pa_nil)))))), ?_⟩
    have hl := tl_len z
    refine ⟨.str z, rfl, .str z, z.length, rfl, ⟨Nat.le_trans hz (by decide), rfl⟩, 1, (z.length : Int), rfl, rfl, _, rfl, ?_⟩
    by_cases h1 : (1 : Int) ≤ (z.length : Int)
    · rw [decide_eq_true h1]
      refine iteT ⟨(z.length : Int), 12, rfl, rfl, _, rfl, ?_⟩
      by_cases h2 : (z.length : Int) ≤ 12
      · rw [decide_eq_true h2]
        obtain ⟨c, hc⟩ : ∃ c, (tl z)[0]? = some c := ⟨_, List.getElem?_eq_getElem (by omega)⟩
        have hne : tl z ≠ [] := by intro e; rw [e] at hc; cases hc
        have hat : atI z.cps.toList 0 = some c := atI_nat (j := 0) hc
        have z16 : z.length ≤ sizeLine := Nat.le_trans hz (by decide)
        refine iteF ?_
        refine ⟨.str z, rfl, z, 0, c, rfl, rfl, z16, hat, rfl, _, rfl, ?_⟩
        rw [e0S, eqS]
        by_cases hz0 : c = 48 ∧ 1 < z.length
        · rw [decide_eq_true hz0.1]
          refine iteT ⟨.str z, rfl, rfl, _, rfl, ?_⟩
          rw [eqZ hc hz0.1, decide_eq_true hz0.2]
          refine iteT ?_
          have e := q H (Same.refl _)
          rw [numOf_zero (by omega) (by rw [head_at hc, hz0.1])] at e
          exact e
        · have hh : 1 < (tl z).length → (tl z).head? ≠ some 48 := fun h e => hz0 ⟨by rw [head_at hc] at e; injection e, by omega⟩
          refine share ?_ (fun hE => ite2 (fun h3 => ⟨.str z, rfl, rfl, _, rfl, by
            have hc48 : c = 48 := of_decide_eq_true h3
            rw [eqZ hc hc48, decide_eq_false (fun h => hz0 ⟨hc48, h⟩)]
            exact iteF hE⟩) (fun h3 => iteF hE))
          refine ⟨.str z, rfl, z, rfl, fun D hD => ?_⟩
          refine lc_it walk_str (fun i H' => H' D = some (.lst ((((tl z).take i).map isD).map V.bl)) ∧ Same H H') ⟨upd_same, same_new hD⟩ (fun _ _ _ _ => trivial) ?_ ?_
          · rintro i v H1 H2 hi ⟨hD', sm⟩ ⟨rfl, c, hc, rfl⟩
            have hc' : (tl z)[i]? = some c := by simpa [tl] using hc
            have hi2 : i < z.length := hi
            refine ⟨rfl, .str ⟨#[c]⟩, rfl, c, rfl, _, hD', ?_, ?_, same_at sm hD⟩
            · rw [List.length_map, List.length_map, List.length_take]; exact small1000 (by omega)
            · rw [upd_same, ← take_mapD _ hc', List.map_append]; rfl
          · rintro H' ⟨hD', sm⟩
            have e : (tl z).take z.cps.size = tl z := List.take_of_length_le (by rw [tl_len]; exact Nat.le_refl _)
            rw [e] at hD'
            refine ⟨D, _, rfl, SqL.of hD', _, rfl, ?_⟩
            have eall : ((tl z).map isD).all id = (tl z).all isD := by rw [List.all_map]; rfl
            rw [eall]
            cases ha : (tl z).all isD with
            | false =>
              refine iteT ?_
              have e := q H' sm
              rw [numOf_bad ha] at e; exact e
            | true =>
              refine iteF ⟨.str z, rfl, z, _, rfl, int_of hne (by omega) ha, by omega, ?_⟩
              have e := q H' sm
              rw [numOf_ok hne (by omega) hh ha] at e; exact e
      · rw [decide_eq_false h2]
        refine iteT ?_
        have e := q H (Same.refl _)
        rw [numOf_long (by omega)] at e; exact e
    · rw [decide_eq_false h1]
      refine iteF ⟨_, rfl, iteT ?_⟩
      have e := q H (Same.refl _)
      rw [numOf_nil (List.length_eq_zero_iff.mp (by omega))] at e; exact e
end
end K74

set_option maxRecDepth 100000
set_option maxHeartbeats 4000000
namespace K74
open PySem PySem.Spec PyProof.Rows L2
/-- limits: a first one, and pairs of others -/
def lims (f a b : Int) (n : Nat) : List Int := f :: (List.replicate n [a, b]).flatten
theorem lims_succ (f a b : Int) (n : Nat) : lims f a b n ++ [a, b] = lims f a b (n + 1) := by
  unfold lims
  rw [List.replicate_succ', List.flatten_append]; simp
theorem lims_len (f a b : Int) (n : Nat) : (lims f a b n).length = 1 + 2 * n := by
  induction n with
  | zero => rfl
  | succ n ih => rw [← lims_succ, List.length_append, ih]; simp; omega
theorem lims_mem {f a b : Int} {n : Nat} {l : Int} (h : l ∈ lims f a b n) : l = f ∨ l = a ∨ l = b := by
  induction n with
  | zero => simp [lims] at h; exact .inl h
  | succ n ih =>
    rw [← lims_succ, List.mem_append] at h
    rcases h with h | h
    · exact ih h
    · simp at h; exact .inr h
theorem lims_at {f a b : Int} {n : Nat} : ∀ {k : Nat}, k < n → (lims f a b n)[2 * k + 1]? = some a ∧ (lims f a b n)[2 * k + 2]? = some b := by
  induction n with
  | zero => intro k h; omega
  | succ n ih =>
    intro k h
    rw [← lims_succ]
    have hl := lims_len f a b n
    by_cases hk : k < n
    · obtain ⟨h1, h2⟩ := ih hk
      rw [List.getElem?_append_left (by omega), List.getElem?_append_left (by omega)]
      exact ⟨h1, h2⟩
    · obtain rfl : k = n := by omega
      rw [List.getElem?_append_right (by omega), List.getElem?_append_right (by omega), hl]
      rw [show 2 * k + 1 - (1 + 2 * k) = 0 by omega, show 2 * k + 2 - (1 + 2 * k) = 1 by omega]
      exact ⟨rfl, rfl⟩
theorem row_at {ls rs : List Int} (h : RowOf ls rs) {i : Nat} {l : Int} (hl : ls[i]? = some l) : ∃ r, rs[i]? = some r ∧ 0 ≤ r ∧ r < l := h.2 i l hl
theorem i_at {rs : List Int} {i : Nat} {r : Int} (h : rs[i]? = some r) : (rs.map V.int)[i]? = some (.int r) := by rw [List.getElem?_map, h]; rfl
section
variable {P : Program} {w : World} {K : PySem.W.Frag} {mg : Str → Option Value} {base : Heap} {t1 t2 t3 : Tok}
/-! ### _law_index -/
def spIndex : Sp := fun vs H Q _ => ∃ (y x : Int), vs = [.int y, .int x] ∧ 0 ≤ x ∧ x < 1000000000000 ∧ ∀ e : Int, 0 ≤ e → e < 1000000000000 → Q (.int e) H
theorem scIndex : FnScope ["_law_way", "_law_worth"] ["_law_way", "_law_worth"] (defScope sIndex) := ⟨rfl, rfl, rfl, by decide +kernel, rfl, by decide +kernel, by decide +kernel⟩
theorem ok_index {f : Addr} {fd : FuncData} (B : Blt mg) (F : Fun K "_law_index" "_law_index" sIndex f fd) : FnOk P w K mg base CX0 1 f fd ["_law_way", "_law_worth"] spIndex := by
  refine F.ok scIndex (fun vs H Q E h => ?_) (fun cdv A outer s H vs Q E hr h => ?_)
  · obtain ⟨y, x, rfl, _⟩ := h; rfl
  · obtain ⟨y, x, rfl, h0, h1, q⟩ := h
    refine ⟨_, (pss_cons (ps_if (pt_cmpR op_eq (pv 0) pe_int (nomark _))
      (pss_one (ps_ret pe_int))
      pss_nil)
      (pss_cons (ps_if (pt_cmpR op_eq (pv 0) pe_int (nomark _))
      (pss_one (ps_ret (pe_op op_modN (pe_callTy call_int1 (by rfl) B.int (by decide +kernel) (pa_cons (pv 1) pa_nil)) pe_int)))
      pss_nil)
      (pss_cons (ps_if (pt_cmpR op_eq (pv 0) pe_int (nomark _))
      (pss_one (ps_ret pe_int))
      pss_nil)
      (pss_cons (ps_if (pt_cmpR op_eq (pv 0) pe_int (nomark _))
      (pss_one (ps_ret (pe_op op_sub pe_int (pe_op op_modN (pe_callTy call_int1 (by rfl) B.int (by decide +kernel) (pa_cons (pv 1) pa_nil)) pe_int))))
      pss_nil)
      (pss_cons (ps_if (pt_cmpR op_eq (pv 0) pe_int (nomark _))
      (pss_one (ps_ret (pe_op op_modN (pe_callTy call_int1 (by rfl) B.int (by decide +kernel) (pa_cons (pv 1) pa_nil)) pe_int)))
      pss_nil)
      (pss_one (ps_ret (pv 1)))))))), ?_⟩
    have b1 : 0 ≤ x.fmod 10 ∧ x.fmod 10 < 10 := ⟨Int.fmod_nonneg_of_pos _ (by decide), Int.fmod_lt_of_pos _ (by decide)⟩
    have b2 : 0 ≤ x.fmod 3 ∧ x.fmod 3 < 3 := ⟨Int.fmod_nonneg_of_pos _ (by decide), Int.fmod_lt_of_pos _ (by decide)⟩
    have b3 : 0 ≤ x.fmod 60 ∧ x.fmod 60 < 60 := ⟨Int.fmod_nonneg_of_pos _ (by decide), Int.fmod_lt_of_pos _ (by decide)⟩
    refine ⟨.int y, rfl, rfl, _, rfl, ite2 (fun _ => q _ (by decide) (by decide)) (fun _ => ?_)⟩
    refine ⟨.int y, rfl, rfl, _, rfl, ite2 (fun _ => ⟨.int x, rfl, .inl ⟨x, rfl, x, 10, rfl, rfl, (show (10 : Int) ≠ 0 by decide), q _ (by omega) (by omega)⟩⟩) (fun _ => ?_)⟩
    refine ⟨.int y, rfl, rfl, _, rfl, ite2 (fun _ => q _ (by decide) (by decide)) (fun _ => ?_)⟩
    refine ⟨.int y, rfl, rfl, _, rfl, ite2 (fun _ => ⟨.int x, rfl, .inl ⟨x, rfl, x, 3, rfl, rfl, (show (3 : Int) ≠ 0 by decide), 999999999999, _, rfl, rfl, q _ (by omega) (by omega)⟩⟩) (fun _ => ?_)⟩
    refine ⟨.int y, rfl, rfl, _, rfl, ite2 (fun _ => ⟨.int x, rfl, .inl ⟨x, rfl, x, 60, rfl, rfl, (show (60 : Int) ≠ 0 by decide), q _ (by omega) (by omega)⟩⟩) (fun _ => ?_)⟩
    exact ⟨.int x, rfl, q _ h0 h1⟩
/-! ### _law_drawn -/
def spDrawn (K : PySem.W.Frag) : Sp := fun vs H Q _ => ∃ (c : Int) (m : Nat), vs = [.int c, .int (m : Int)] ∧ m ≤ 12 ∧
  ∀ H' a (ns : List Nat), Same H H' → H' a = some (.tup (ns.map nv)) → ns.length ≤ m → (∀ n ∈ ns, n < 10 ^ 12) → Q (.ref a) H'
abbrev nDr : List Str := ["_law_cell_here", "_law_many", "_law_limits", "_law_k", "_law_row_here"]
theorem scDrawn : FnScope nDr ["_law_cell_here", "_law_many"] (defScope sDrawn) := ⟨rfl, rfl, rfl, by decide +kernel, rfl, by decide +kernel, by decide +kernel⟩
theorem ok_drawn {f f_row f_index : Addr} {fd fd_row fd_index : FuncData} (B : Blt mg) (F : Fun K "_law_drawn" "_law_drawn" sDrawn f fd)
    (F_row : Fun K "_law_row" "_law_row" sRow f_row fd_row) (b_row : Binds K fd_row ["_law_cell_here", "_law_limits"] []) (g_row : mg "_law_row" = some (.ref f_row))
    (F_index : Fun K "_law_index" "_law_index" sIndex f_index fd_index) (b_index : Binds K fd_index ["_law_way", "_law_worth"] []) (g_index : mg "_law_index" = some (.ref f_index)) :
    FnOk P w K mg base CX0 2 f fd ["_law_cell_here", "_law_many"] (spDrawn K) := by
  have G_row : FnOk P w K mg base CX0 1 f_row fd_row ["_law_cell_here", "_law_limits"] (spRow K) := ok_row B F_row
  have G_index : FnOk P w K mg base CX0 1 f_index fd_index ["_law_way", "_law_worth"] spIndex := ok_index B F_index
  refine F.ok scDrawn (fun vs H Q E h => ?_) (fun cdv A0 outer s H vs Q E hr h => ?_)
  · obtain ⟨c, m, rfl, _⟩ := h; rfl
  · obtain ⟨c, m, rfl, hm, q⟩ := h
    refine ⟨_, (pss_cons (ps_set (i := 2) scDrawn.nd rfl (.inl rfl) (pe_lst (pa_cons (pe_op op_add (pv 1) pe_int) pa_nil)))
      (pss_cons (ps_for (PassesOwn.never) rfl (pi_range1 (by rfl) B.range (pa_cons (pv 1) pa_nil)) (pg_name (i := 3) scDrawn.nd rfl (.inl rfl))
      (pss_one (ps_set (i := 2) scDrawn.nd rfl (.inl rfl) (pe_op op_cat (pv 2) (pe_lst (pa_cons pe_int (pa_cons pe_int pa_nil)))))))
      (pss_cons (ps_set (i := 4) scDrawn.nd rfl (.inr rfl) (pe_call G_row hr (by rfl) g_row F_row.kp b_row .nil pass0 (pa_cons (pv 0) (pa_cons (pv 2) pa_nil))))
      (pss_one (ps_ret (pe_callTy call_tuple_of (by rfl) B.tuple (by decide +kernel) (pa_cons (pe_lc (own := [("_law_k", 3)]) (g := gName 3) (tt := tYes) rfl scDrawn.nd (pi_range1 (by rfl) B.range (pa_cons (pe_ix ix_list (pv 4) pe_int (fun _ _ => rfl)) pa_nil)) (blkOk_by (N := nDr) (sc := defScope sDrawn) (by decide +kernel)) (fun _ _ _ _ _ => (pg_name (i := 3) scDrawn.nd rfl (.inl rfl))) (fun _ _ _ _ _ => pts_nil) (fun _ _ _ _ _ => (pe_call G_index hr (by rfl) g_index F_index.kp b_index .nil pass0 (pa_cons (pe_ix (show IxR _ (rIxL K) from ix_list) (pv 4) (pe_op op_add (pe_op op_mul pe_int (pv 3)) pe_int) (fun _ _ => rfl)) (pa_cons (pe_ix (show IxR _ (rIxL K) from ix_list) (pv 4) (pe_op op_add (pe_op op_mul pe_int (pv 3)) pe_int) (fun _ _ => rfl)) pa_nil))))) pa_nil))))))), ?_⟩
    refine ⟨.int (m : Int), rfl, (m : Int), 1, rfl, rfl, by show 1 ≤ sizeLine; decide, fun l0 n0 => ?_⟩
    have s0 : Same H (upd H l0 (.lst [.int ((m : Int) + 1)])) := same_new n0
    have e0 : (upd H l0 (.lst [.int ((m : Int) + 1)])) l0 = some (.lst ((lims ((m : Int) + 1) 6 1000000000000 0).map V.int)) := upd_same
    generalize upd H l0 (.lst [.int ((m : Int) + 1)]) = H0 at s0 e0 ⊢
    refine ⟨.int (m : Int), rfl, (m : Int), rfl, by omega, by omega, ?_⟩
    rw [Int.toNat_natCast]
    refine for_range (lo := 0) (n := m) (fun i σ H' => ∃ (p : Addr) (y3 : Option V), σ = [some (.int c), some (.int (m : Int)), some (.ref p), y3, none] ∧ Same H H' ∧ H' p = some (.lst ((lims ((m : Int) + 1) 6 1000000000000 i).map V.int)))
      ⟨l0, none, rfl, s0, e0⟩ ?_ ?_
    · rintro i σ H' hi ⟨p, y3, rfl, sm, hp⟩
      refine ⟨.ref p, rfl, by show 2 ≤ sizeLine; decide, fun l1 n1 => ⟨p, l1, _, _, rfl, rfl, by rw [upd_ne (ne_of_none hp n1)]; exact hp, upd_same, ?_, fun l2 n2 => ?_⟩⟩
      · rw [List.length_map, lims_len]; show _ + 2 ≤ _; rw [sizeLine_eq]; omega
      · refine ⟨l2, _, rfl, (same_new2 (same_new2 sm n1) n2), ?_⟩
        rw [upd_same, ← lims_succ, List.map_append]; rfl
    · rintro σ H' ⟨p, y3, rfl, sm, hp⟩
      refine ⟨.int c, rfl, .ref p, rfl, c, p, _, rfl, SqL.of hp, by rw [lims_len]; omega, ?_, fun H1 R rs s1 nR hR hrow => ?_⟩
      · intro l hl
        rcases lims_mem hl with rfl | rfl | rfl <;> omega
      · obtain ⟨g0, a0, b0, c0⟩ := row_at hrow (i := 0) (l := (m : Int) + 1) rfl
        obtain ⟨k, rfl⟩ : ∃ k : Nat, g0 = (k : Int) := ⟨g0.toNat, by omega⟩
        have hk : k ≤ m := by omega
        refine ⟨.ref R, rfl, R, _, 0, _, rfl, rfl, SqL.of hR, atI_nat (j := 0) (i_at a0), k, rfl, by omega, by omega, fun D hD => ?_⟩
        rw [Int.toNat_natCast]
        have sA := sm.trans s1
        refine lc_range (lo := 0) (n := k) (fun i H' => ∃ ns : List Nat, H' D = some (.lst (ns.map nv)) ∧ ns.length = i ∧ (∀ n ∈ ns, n < 10 ^ 12) ∧ Same H1 H')
          ⟨[], upd_same, rfl, fun n h => absurd h List.not_mem_nil, same_new hD⟩ ?_ ?_
        · rintro i H2 hi ⟨ns, hns, hnl, hn12, s2⟩
          have e0 : (0 : Int) + (i : Int) = (i : Int) := by omega
          rw [e0]
          obtain ⟨h1, h2⟩ := lims_at (f := (m : Int) + 1) (a := 6) (b := 1000000000000) (n := m) (k := i) (by omega)
          obtain ⟨r1, a1, b1, c1⟩ := row_at hrow h1
          obtain ⟨r2, a2, b2, c2⟩ := row_at hrow h2
          refine ⟨rfl, .ref R, rfl, .int (i : Int), rfl, 2, (i : Int), rfl, rfl, .inl ⟨by decide, by decide⟩, _, 1, rfl, rfl, R, _, _, _, rfl, rfl, SqL.of (s2 _ _ hR), at_of (j := 2 * i + 1) (by omega) (i_at a1), .ref R, rfl, .int (i : Int), rfl, 2, (i : Int), rfl, rfl, .inl ⟨by decide, by decide⟩, _, 2, rfl, rfl, R, _, _, _, rfl, rfl, SqL.of (s2 _ _ hR), at_of (j := 2 * i + 2) (by omega) (i_at a2), _, _, rfl, b2, c2, fun e he0 he1 => ?_⟩
          obtain ⟨n, rfl⟩ : ∃ n : Nat, e = (n : Int) := ⟨e.toNat, by omega⟩
          refine ⟨_, hns, small1000 (by rw [List.length_map]; omega), ns ++ [n], by rw [upd_same, List.map_append]; rfl, by rw [List.length_append, hnl]; rfl, fun x hx => ?_, same_at s2 hD⟩
          rcases List.mem_append.mp hx with h | h
          · exact hn12 x h
          · rw [List.mem_singleton.mp h]; omega
        · rintro H2 ⟨ns, hns, hnl, hn12, s2⟩
          refine ⟨D, _, rfl, .inl ⟨SqL.of hns, fun T nT => ?_⟩⟩
          exact q _ T ns (same_new2 (sA.trans s2) nT) upd_same (by omega) hn12
end
end K74

set_option maxRecDepth 100000
set_option maxHeartbeats 4000000
namespace K74
open PySem PySem.Spec PyProof.Rows L2
theorem dp_nv {K : PySem.W.Frag} {H : Hp} : ∀ ns : List Nat, DpAll K H (ns.map nv) (ns.map fun n : Nat => PyData.int (n : Int))
  | [] => .nil
  | n :: ns => .cons (.int _) (dp_nv ns)
theorem lay_nv : ∀ ns : List Nat, PyData.canLayAll0 (ns.map fun n : Nat => PyData.int (n : Int)) = true
  | [] => by simp [PyData.canLayAll0]
  | n :: ns => by simp [PyData.canLayAll0, PyData.canLay0, lay_nv ns]
theorem deep_nv : ∀ ns : List Nat, PyData.depthAll (ns.map fun n : Nat => PyData.int (n : Int)) ≤ 1
  | [] => by simp [PyData.depthAll]
  | n :: ns => by
    have h := deep_nv ns
    simp only [List.map_cons, PyData.depthAll, PyData.depth]; omega
theorem shaped_nv (ns : List Nat) : SeqAt.shaped (.tuple (ns.map fun n : Nat => PyData.int (n : Int))) = true := by
  have h := deep_nv ns
  show ((PyData.canLay0 (.tuple (ns.map fun n : Nat => PyData.int (n : Int)))) && decide ((PyData.depth (.tuple (ns.map fun n : Nat => PyData.int (n : Int)))) ≤ 64)) = true
  rw [Bool.and_eq_true]
  refine ⟨by simp only [PyData.canLay0]; exact lay_nv ns, decide_eq_true ?_⟩
  simp only [PyData.depth]; omega
theorem eqv_unitN (ns : List Nat) : PyData.eqv (.tuple (ns.map fun n : Nat => PyData.int (n : Int))) (.tuple []) = decide (ns = []) := by
  cases ns with
  | nil => simp [PyData.eqv, PyData.eqvAll]
  | cons n ns => simp [PyData.eqv, PyData.eqvAll]
theorem log_ok {n : Nat} (h : n < 10 ^ 12) : (n : Int).natAbs.log2 < 1920 := by
  rw [Int.natAbs_natCast]
  exact Nat.lt_of_lt_of_le (PySem.Flt.log2_lt_of (k := 40) (by decide) (by omega)) (by decide)
theorem toS (n : Nat) : (toString (n : Int) : Str) = nS n := rfl
theorem take_mapS (ns : List Nat) {i n : Nat} (h : ns[i]? = some n) : (ns.take i).map nS ++ [nS n] = (ns.take (i + 1)).map nS := by
  rw [List.take_add_one, h, List.map_append]; rfl
theorem fit12 {ns : List Nat} (h12 : ns.length ≤ 12) (h : ∀ n ∈ ns, n < 10 ^ 12) : ((ns.map nS).map (·.length)).sum + (ns.map nS).length * dotS.length ≤ 16777216 := by
  have h1 := sum_nS h
  have h2 : dotS.length = 1 := by decide +kernel
  rw [h2, List.length_map]; omega
section
variable {P : Program} {w : World} {K : PySem.W.Frag} {mg : Str → Option Value} {base : Heap} {t1 t2 t3 : Tok}
/-! ### write_place -/
def spWr : Sp := fun vs H Q _ => ∃ (a : Addr) (ns : List Nat), vs = [.ref a] ∧ H a = some (.tup (ns.map nv)) ∧ ns.length ≤ 12 ∧ (∀ n ∈ ns, n < 10 ^ 12) ∧ ∀ H' z, Same H H' → tl z = wrL ns → Q (.str z) H'
abbrev nWP : List Str := ["place", "index"]
theorem scWPlace : FnScope nWP ["place"] (defScope sWPlace) := ⟨rfl, rfl, rfl, by decide +kernel, rfl, by decide +kernel, by decide +kernel⟩
theorem ok_wplace {f : Addr} {fd : FuncData} (B : Blt mg) (Z : Cst mg t1 t2 t3) (F : Fun K "write_place" "write_place" sWPlace f fd) : FnOk P w K mg base CX0 1 f fd ["place"] spWr := by
  refine F.ok scWPlace (fun vs H Q E h => ?_) (fun cdv A0 outer s H vs Q E hr h => ?_)
  · obtain ⟨a, ns, rfl, _⟩ := h; rfl
  · obtain ⟨a, ns, rfl, ha, h12, hn, q⟩ := h
    refine ⟨_, (pss_one (ps_ret (pe_ifExp (pt_truth (pv 0) (by intro _; rfl)) (pe_join pe_str (pe_lc (own := [("index", 1)]) (g := gName 1) (tt := tYes) rfl scWPlace.nd (pi_tup (pv 0)) (blkOk_by (N := nWP) (sc := defScope sWPlace) (by decide +kernel)) (fun _ _ _ _ _ => (pg_name (i := 1) scWPlace.nd rfl (.inl rfl))) (fun _ _ _ _ _ => pts_nil) (fun _ _ _ _ _ => (pe_callTy call_str_int (by rfl) B.str (by decide +kernel) (pa_cons (pv 1) pa_nil))))) (pe_glob (v := .str (Str.ofString "root")) (by rfl) Z.g_ROOT ⟨_, rfl⟩)))), ?_⟩
    refine ⟨.ref a, rfl, _, .inr (.inl ⟨_, SqT.of ha, rfl⟩), ?_⟩
    by_cases hne : ns = []
    · subst hne
      refine iteF (q H _ (Same.refl _) ?_)
      rw [tl_root]; rfl
    · have e : (!(ns.map nv).isEmpty) = true := by cases ns with
        | nil => exact absurd rfl hne
        | cons n r => rfl
      rw [e]
      refine iteT ⟨⟨_, rfl⟩, .ref a, rfl, a, rfl, ⟨_, SqT.of ha⟩, fun D hD => ?_⟩
      refine lc_tup (K := K) (a := a) (xs := ns.map nv) (fun i H' => H' D = some (.lst (((ns.take i).map nS).map V.str)) ∧ Same H H') ⟨upd_same, same_new hD⟩ (fun i H' _ ⟨_, s⟩ => SqT.of (s _ _ ha)) ?_ ?_
      · rintro i v H' hi ⟨hD', sm⟩
        rw [List.getElem?_map] at hi
        cases en : ns[i]? with
        | none => rw [en] at hi; cases hi
        | some n =>
        rw [en] at hi; cases hi
        have hlt := (List.getElem?_eq_some_iff.mp en).1
        refine ⟨rfl, .int (n : Int), rfl, (n : Int), rfl, log_ok (hn n (List.mem_of_getElem? en)), _, hD', ?_, ?_, same_at sm hD⟩
        · rw [List.length_map, List.length_map, List.length_take]; exact small1000 (by omega)
        · rw [upd_same, ← take_mapS _ en, List.map_append]; rfl
      · rintro H' ⟨hD', sm⟩
        rw [List.take_of_length_le (by rw [List.length_map]; exact Nat.le_refl _)] at hD'
        refine ⟨dotS, D, ns.map nS, rfl, rfl, .inl (SqL.of hD'), fit12 h12 hn, q H' _ sm ?_⟩
        rw [tl_joinN]; unfold wrL; rw [if_neg hne]
/-! ### _law_written -/
abbrev nWr : List Str := ["_law_place_here", "_law_index_here"]
theorem scWritten : FnScope nWr ["_law_place_here"] (defScope sWritten) := ⟨rfl, rfl, rfl, by decide +kernel, rfl, by decide +kernel, by decide +kernel⟩
theorem ok_written {f : Addr} {fd : FuncData} (B : Blt mg) (F : Fun K "_law_written" "_law_written" sWritten f fd) : FnOk P w K mg base CX0 1 f fd ["_law_place_here"] spWr := by
  refine F.ok scWritten (fun vs H Q E h => ?_) (fun cdv A0 outer s H vs Q E hr h => ?_)
  · obtain ⟨a, ns, rfl, _⟩ := h; rfl
  · obtain ⟨a, ns, rfl, ha0, h12, hn, q⟩ := h
    refine ⟨_, (pss_cons (ps_if (pt_cmpR (op_eqD hr.units) (pv 0) (pe_tup pa_nil) (nomark _))
      (pss_one (ps_ret pe_str))
      pss_nil)
      (pss_one (ps_ret (pe_join pe_str (pe_lc (own := [("_law_index_here", 1)]) (g := gName 1) (tt := tYes) rfl scWritten.nd (pi_tup (pv 0)) (blkOk_by (N := nWr) (sc := defScope sWritten) (by decide +kernel)) (fun _ _ _ _ _ => (pg_name (i := 1) scWritten.nd rfl (.inl rfl))) (fun _ _ _ _ _ => pts_nil) (fun _ _ _ _ _ => (pe_callTy call_str_int (by rfl) B.str (by decide +kernel) (pa_cons (pv 1) pa_nil)))))))), ?_⟩
    refine ⟨.ref a, rfl, Nat.zero_le _, fun o no => ?_⟩
    have s1 : Same H (upd H o (.tup [])) := same_new no
    have ha := s1 _ _ ha0
    refine ⟨.tuple (ns.map fun n : Nat => PyData.int (n : Int)), .tuple [], .tup (SqT.of ha) (dp_nv ns), .tup (SqT.of upd_same) .nil, shaped_nv ns, shaped_nv [], _, rfl, ?_⟩
    rw [eqv_unitN]
    generalize upd H o (.tup []) = H1 at s1 ha ⊢
    by_cases hne : ns = []
    · subst hne
      refine iteT (q H1 _ s1 ?_)
      rw [tl_root]; rfl
    · rw [decide_eq_false hne]
      refine iteF ⟨⟨_, rfl⟩, .ref a, rfl, a, rfl, ⟨_, SqT.of ha⟩, fun D hD => ?_⟩
      refine lc_tup (K := K) (a := a) (xs := ns.map nv) (fun i H' => H' D = some (.lst (((ns.take i).map nS).map V.str)) ∧ Same H1 H') ⟨upd_same, same_new hD⟩ (fun i H' _ ⟨_, s⟩ => SqT.of (s _ _ ha)) ?_ ?_
      · rintro i v H' hi ⟨hD', sm⟩
        rw [List.getElem?_map] at hi
        cases en : ns[i]? with
        | none => rw [en] at hi; cases hi
        | some n =>
        rw [en] at hi; cases hi
        have hlt := (List.getElem?_eq_some_iff.mp en).1
        refine ⟨rfl, .int (n : Int), rfl, (n : Int), rfl, log_ok (hn n (List.mem_of_getElem? en)), _, hD', ?_, ?_, same_at sm hD⟩
        · rw [List.length_map, List.length_map, List.length_take]; exact small1000 (by omega)
        · rw [upd_same, ← take_mapS _ en, List.map_append]; rfl
      · rintro H' ⟨hD', sm⟩
        rw [List.take_of_length_le (by rw [List.length_map]; exact Nat.le_refl _)] at hD'
        refine ⟨dotS, D, ns.map nS, rfl, rfl, .inl (SqL.of hD'), fit12 h12 hn, q H' _ (s1.trans sm) ?_⟩
        rw [tl_joinN]; unfold wrL; rw [if_neg hne]
end
end K74

set_option maxRecDepth 100000
set_option maxHeartbeats 4000000
namespace K74
open PySem PySem.Spec PyProof.Rows L2 PySem.W PySem.Calls
/-! isinstance of a caught error whose own dict stands -/
section
variable {prog : Program} {w : World} {A : Around} {E : Value → Shared → Prop} {s : Shared} {K : Frag} {x D : Addr} {ox : Obj} {od : Option Obj}
theorem find_cls (hc : (clsIn K D).isSome = true) (C : L2.ExcC K D) : findObj K D od "__class__" = some (.bind (.builtin "getset_descriptor.__get__") (.builtin "object.__class__")) := by
  obtain ⟨cd, e⟩ := Option.isSome_iff_exists.mp hc
  unfold findObj
  rw [e, Option.bind_some, C.ha, Option.bind_some]; simp [C.hn, C.ht]
theorem ask_cls {Q : Option Value → Shared → Prop} (C : L2.ExcC K D) (X : K.In s.heap) (I : InstAt s.heap x ox D od) (h : Q (some (.ref D)) { s with toks := s.toks + 1 }) :
    wpAny (model prog w) A (getAttr? (.ref x) "__class__") Q E s := by
  have hf := find_cls (od := od) (by obtain ⟨c0, e0, _⟩ := any_some C.hd; rw [e0]; rfl) C
  obtain ⟨hp, g, dr, tk, os⟩ := s
  have A0 := I.type (M := model prog w); have A1 := looks_findIn (M := model prog w) X C.hg; have A2 := looks_findIn (M := model prog w) X C.hk
  have A3 := looks_find (M := model prog w) X I hf; have A4 : Looks (model prog w) hp (isInstance (.ref x) (.type "BaseException")) true := A0.andThen (looks_subIn X C.hs)
  have b0 : (false && onTheHeap (Value.builtin "BaseException.__getattribute__")) = false := rfl
  have b2 : (Value.builtin "BaseException.__getattribute__" == Value.builtin "object.__getattribute__") = false := by decide +kernel
  have b1 : (onTheHeap (Value.ref D) && Value.builtin "BaseException.__getattribute__" == Value.builtin "object.__getattribute__") = false := by rw [b2]; rfl
  unfold getAttr? getAttrBy? getAttrBy
  refine wpAny_bind (wpAny_mkText (wpAny_bind (wpAny_attempt (wpAny_holding (wpAny_bind (A0.at (wpAny_bind (A1.at ?_))))))))
  show wpAny _ _ (if (onTheHeap (Value.ref D) && Value.builtin "BaseException.__getattribute__" == Value.builtin "object.__getattribute__") = true then _ else _) _ _ _
  rw [b1, if_neg Bool.false_ne_true]; unfold getAttrByItsOwn hookBefore
  refine wpAny_bind ?_; rw [if_pos (show onTheHeap (Value.ref D) = true from rfl)]; refine A2.at ?_
  refine wpAny_bind (wpAny_attempt (wpAny_holding ?_)); unfold callGetattribute; rw [b0, if_neg Bool.false_ne_true]; unfold boundAndCalled
  rw [PySem.F.excAttr_ValueError.ga.bind (.ref x)]; refine wpAny_bind (wpAny_pure ?_)
  show wpAny _ _ (call (.builtin "BaseException.__getattribute__") [.ref x, .str "__class__" tk]) _ _ _
  refine wpAny_call (codeAny_call_builtin PySem.F.excAttr_ValueError.ga.plain PySem.F.entry_bexc_ga ?_)
  refine @check_slot (model prog w) _ _ ⟨hp, g, dr, tk + 1, os⟩ "BaseException.__getattribute__" "BaseException" "__getattribute__" (.ref x) [.str "__class__" tk] [] _ (by decide +kernel) (by decide +kernel) A4 (PySem.F.args_bexc_ga (.ref x) (.str "__class__" tk)) ?_
  unfold Builtin.«object.__getattribute__»; refine wpAny_bind (wpAny_of_eq (a := ((Value.ref x : Value), [Value.str "__class__" tk])) (by first | rfl | (simp only [slotArgs]; rfl)) ?_)
  refine wpAny_bind (wpAny_pure (wpAny_bind (A0.at (wpAny_bind (A3.at ?_)))))
  show wpAny _ _ (holding [Value.builtin "object.__class__"] (call (.builtin "getset_descriptor.__get__") [.builtin "object.__class__", .ref x, .ref D]) >>= ret) _ _ _
  refine wpAny_bind (wpAny_holding (wpAny_call (class_get (s := ⟨hp, g, dr, tk + 1, os⟩) (ox := ox) (od := od) X I C.hm ?_))); refine wpAny_pure ?_
  show wpAny _ _ (handedOut (.ref D)) _ _ _; rw [handedOut_of (v := .ref D) rfl]
  first | exact wpAny_pure (wpAny_pure h) | exact wpAny_pure h | exact wpAny_pure (wpAny_bind (wpAny_pure (wpAny_pure h)))
theorem kit_err (C : L2.ExcC K D) : KitX K (.ref x) (.ref D) (fun h => InstAt h x ox D od) := by
  obtain ⟨cd, hc, _⟩ := any_some C.hd
  refine ⟨fun _ _ _ I => I.type, fun M h X _ => ?_, fun h tp dd its n sl X htp => ?_, fun X I k => ask_cls C X I k⟩
  · unfold clsIn at hc
    split at hc
    · rename_i o1 o2 o3 o4 ho
      intro A' Q' E' s' k q; unfold isType loadHead; exact wpAny_bind (wpAny_loadPart (k _ _ (X _ _ ho)) (wpAny_pure q))
    · cases hc
  · refine Bool.eq_false_iff.mpr fun q => ?_
    have e : D = tp := Value.ref.inj (beq_iff_eq.mp q); subst e
    unfold clsIn at hc
    split at hc
    · rename_i o1 o2 o3 o4 ho
      have z := (X _ _ ho).symm.trans htp; cases z
    · cases hc
end
/-- isinstance(e, c), e the caught error at a, of class D, its own dict at dd -/
def rIsD (K : PySem.W.Frag) (D a : Addr) (cls : Value) (d : Option Addr) : List V → Hp → VK → Prop := fun xs H Q => ∃ (c : V) (cv : Value) (b : Bool) (dd : Addr) (fs : List (Str × V)),
  cls = .ref D ∧ xs = [.ref a, c] ∧ (∀ u, RelV c u → u = cv) ∧ kitOne K (.ref D) cv = some b ∧ d = some dd ∧ H dd = some (.xd fs) ∧ Q (.bl b) H
theorem call_isD {X : Cx} {a D : Addr} {oe : Obj} {cls : Value} {d : Option Addr} {pn : List (Addr × Obj)} (C : ExcC X.K D) (hz : Zc cls d oe) (hf : ∃ vs, oe.data = .fields vs) : CallR (X.suite a ((a, oe) :: pn)) (.builtin "isinstance") (rIsD X.K D a cls d) := by
  intro pins s σ H xs us Q I r h
  obtain ⟨c, cv, b, dd, fs, ecl, rfl, hcv, e, ed, ea, q⟩ := h
  subst ecl
  subst ed
  obtain ⟨u1, u2, rfl, r1, r2⟩ := vals2 r
  obtain rfl : u1 = Value.ref a := r1
  have ec := hcv _ r2; subst ec
  obtain ⟨hget, _⟩ := I.pin (a, oe) (List.mem_append_left _ List.mem_cons_self)
  obtain ⟨vs, hv⟩ := hf
  have hx : ObjOk X.prog X.w H s.heap dd (.xd fs) := I.hok dd _ ea
  obtain ⟨mA, hns, hr⟩ := hx
  obtain ⟨od, ho, hl⟩ := lookIn_ns hns
  have J : InstAt s.heap a oe D (some od) := ⟨hget, hz.1, by unfold PySem.W.notCls; rw [hv] <;> rfl, by rw [hz.2]; exact ho⟩
  exact kia_one (kit_err C) I.kIn J e (fun z => nomatch z) fun tk => ⟨.bl b, H, I.kept (t' := tk) fun _ _ z => z, rfl, q⟩
structure NoP (K : PySem.W.Frag) (mg : Str → Option Value) (C fI : Addr) (fd : FuncData) : Prop where
  gC : mg "BadValue" = some (.ref C)
  oex : OexC K C
  fp : PySem.W.findIn K (.ref C) "text" = some none
  iC : PySem.W.findIn K (.ref C) "__init__" = some (some (.ref fI))
  tI : PySem.W.typeIn K (.ref fI) = some (.type "function")
  F : Fun K "__init__" "BadValue.__init__" sInit fI fd
  b : Binds K fd ["self", "text"] []

theorem splitP (z : Str) : (Txt.split z dotS).map tl = parts (tl z) := by
  have h := TL.split_spl z dotS (by decide +kernel) (TL.kind_ok (by decide +kernel))
  rw [show TL.tl dotS = [46] from tl_dot] at h
  exact h
theorem spl_piece : ∀ (l acc : List Nat), ∀ p ∈ TL.spl [46] 0 acc l, p.length ≤ acc.length + l.length
  | [], acc, p, hp => by rw [TL.spl_nil] at hp; rw [List.mem_singleton.mp hp]; simp
  | c :: r, acc, p, hp => by
    by_cases hc : c = 46
    · subst hc
      rw [TL.spl_hit (by simp [TL.pre])] at hp
      rcases List.mem_cons.mp hp with rfl | h
      · simp
      · have := spl_piece r [] p h
        simp at this ⊢; omega
    · rw [TL.spl_miss (by simp [TL.pre]; exact hc)] at hp
      have := spl_piece r _ p hp
      simp at this ⊢; omega
theorem piece_len {z p : Str} (h : p ∈ Txt.split z dotS) : p.length ≤ z.length := by
  have h1 : tl p ∈ parts (tl z) := by rw [← splitP]; exact List.mem_map_of_mem h
  have := spl_piece (tl z) [] _ h1
  rw [tl_len, tl_len] at this; simpa using this
theorem split_len (z : Str) : (Txt.split z dotS).length = dots (tl z) + 1 := by
  rw [← parts_len, ← splitP, List.length_map]
theorem anyN (os : List (Option Nat)) : inV .non (os.map ov) = decide (none ∈ os) := by
  unfold inV
  induction os with
  | nil => rfl
  | cons o os ih =>
    rw [List.map_cons, List.any_cons, ih]
    cases o with
    | none => simp [ov, eqV]
    | some n => simp [ov, eqV]
theorem flatO (os : List (Option Nat)) : (os.map ov).all flatV = true := by
  induction os with
  | nil => rfl
  | cons o os ih => cases o <;> simpa [ov, flatV] using ih
theorem ov_some (ns : List Nat) : (ns.map some).map ov = ns.map nv := by rw [List.map_map]; rfl
theorem rd_root {z : Str} (h : tl z = rootL) : rdW (tl z) = some [] := by unfold rdW; rw [if_pos h]
theorem rd_parts {z : Str} (h : tl z ≠ rootL) : rdW (tl z) = allSome ((Txt.split z dotS).map fun p => numOf (tl p)) := by
  unfold rdW; rw [if_neg h, ← splitP, List.map_map]; rfl
theorem eqRoot (z : Str) : decide (V.str z = V.str (Str.ofString "root")) = decide (tl z = rootL) := by rw [eqT, tl_root]
theorem take_mapO (ps : List Str) {i : Nat} {p : Str} (h : ps[i]? = some p) : ((ps.take i).map fun p => numOf (tl p)) ++ [numOf (tl p)] = (ps.take (i + 1)).map fun p => numOf (tl p) := by
  rw [List.take_add_one, h, List.map_append]; rfl
section
variable {P : Program} {w : World} {K : PySem.W.Frag} {mg : Str → Option Value} {base : Heap} {t1 t2 t3 : Tok}
theorem scInit : FnScope ["self", "text"] ["self", "text"] (defScope sInit) := ⟨rfl, rfl, rfl, by decide +kernel, rfl, by decide +kernel, by decide +kernel⟩
def spInit (K : PySem.W.Frag) (C : Addr) : Sp := fun vs H Q _ => ∃ (a : Addr) (v : V), vs = [.ref a, v] ∧ H a = some (exo a C none) ∧ OexC K C ∧ PySem.W.findIn K (.ref C) "text" = some none ∧
  ∀ d, H d = none → d ≠ a → Q .non (upd (upd H d (exd d [("text", v)])) a (exo a C (some d)))
theorem ok_init {f C : Addr} {fd : FuncData} (F : Fun K "__init__" "BadValue.__init__" sInit f fd) : FnOk P w K mg base CX0 1 f fd ["self", "text"] (spInit K C) := by
  refine F.ok scInit (fun vs H Q E h => ?_) (fun cdv A outer s H vs Q E hr h => ?_)
  · obtain ⟨a, v, rfl, _⟩ := h; rfl
  · obtain ⟨a, v, rfl, ha, o, fp, q⟩ := h
    refine ⟨_, pss_one (ps_ost (pv 0) (pv 1)), ?_⟩
    exact ⟨_, rfl, _, rfl, a, C, rfl, o, fp, .inl ⟨ha, fun dx h1 h2 => q dx h1 h2⟩⟩

theorem heap_raised {H : Hp} {a d C : Addr} {v : V} (ha : H a = none) (hd : H d = none) (hne : d ≠ a) :
    upd (del (upd (upd (upd H a (exo a C none)) d (exd d [("text", v)])) a (exo a C (some d))) a) d (.xd [("text", v)]) = upd H d (.xd [("text", v)]) := by
  funext b
  by_cases h1 : b = d
  · subst h1; rw [upd_same, upd_same]
  · rw [upd_ne h1, upd_ne h1]
    by_cases h2 : b = a
    · subst h2; rw [del_same, ha]
    · rw [del_ne h2, upd_ne h2, upd_ne h1, upd_ne h2]
theorem raise_np {C : Addr} {v : V} {H : Hp} {Q : XK} (o : OexC K C) (fp : PySem.W.findIn K (.ref C) "text" = some none) (q : ∀ d, H d = none → Q (.ref C) (some d) (upd H d (.xd [("text", v)]))) :
    [v].length ≤ 1000 ∧ ∀ a, H a = none → spInit K C (.ref a :: ([v] ++ [])) (upd H a (exo a C none))
      (fun u H2 => u = .non ∧ ∃ (d : Addr) (fs : List (Str × V)), H2 a = some (exo a C (some d)) ∧ H2 d = some (exd d fs) ∧ H d = none ∧ Q (.ref C) (some d) (upd (del H2 a) d (.xd fs))) (fun _ _ _ => False) := by
  refine ⟨by show 1 ≤ 1000; decide, fun a ha => ⟨a, v, rfl, upd_same, o, fp, fun d h1 hne => ⟨rfl, d, [("text", v)], upd_same, ?_, ?_, ?_⟩⟩⟩
  · rw [upd_ne hne, upd_same]
  · rw [upd_ne hne] at h1; exact h1
  · rw [upd_ne hne] at h1
    rw [heap_raised ha h1 hne]; exact q d h1

/-! ### read_place -/
def spRPlace (C : Addr) : Sp := fun vs H Q E => ∃ (z : Str), vs = [.str z] ∧ z.length ≤ 1000 ∧ dots (tl z) ≤ 11 ∧
  (∀ ns, rdW (tl z) = some ns → ∀ H' a, Same H H' → H' a = some (.tup (ns.map nv)) → Q (.ref a) H') ∧
  (rdW (tl z) = none → ∀ H' d, Same H H' → H' d = none → E (.ref C) (some d) (upd H' d (.xd [("text", .str z)])))
abbrev nRP : List Str := ["word", "place", "part"]
theorem scRPlace : FnScope nRP ["word"] (defScope sRPlace) := ⟨rfl, rfl, rfl, by decide +kernel, rfl, by decide +kernel, by decide +kernel⟩
theorem ok_rplace {f C fI f_read_number f_is_digit : Addr} {fd fdI fd_read_number fd_is_digit : FuncData} (B : Blt mg) (Z : Cst mg t1 t2 t3) (N : NoP K mg C fI fdI) (F : Fun K "read_place" "read_place" sRPlace f fd)
    (F_read_number : Fun K "read_number" "read_number" sNum f_read_number fd_read_number) (b_read_number : Binds K fd_read_number ["word"] []) (g_read_number : mg "read_number" = some (.ref f_read_number))
    (F_is_digit : Fun K "_is_digit" "_is_digit" sDigit f_is_digit fd_is_digit) (b_is_digit : Binds K fd_is_digit ["char"] []) (g_is_digit : mg "_is_digit" = some (.ref f_is_digit)) :
    FnOk P w K mg base (L2.CX P w) 3 f fd ["word"] (spRPlace C) := by
  have GI : FnOk P w K mg base CX0 1 fI fdI ["self", "text"] (spInit K C) := ok_init N.F
  have G_read_number : FnOk P w K mg base CX0 2 f_read_number fd_read_number ["word"] spNum := ok_num B Z F_read_number F_is_digit b_is_digit g_is_digit
  refine F.okX scRPlace (fun vs H Q E h => ?_) (fun cdv A0 outer s H vs Q E hr h => ?_)
  · obtain ⟨z, rfl, _⟩ := h; rfl
  · obtain ⟨z, rfl, hz, hd, q, qe⟩ := h
    refine ⟨_, (pss_cons (ps_if (pt_cmpR op_eq (pv 0) (pe_glob (v := .str (Str.ofString "root")) (by rfl) Z.g_ROOT ⟨_, rfl⟩) (nomark _))
      (pss_one (ps_ret (pe_tup pa_nil)))
      pss_nil)
      (pss_cons (ps_set (i := 1) scRPlace.nd rfl (.inl rfl) (pe_callTy call_tuple_of (by rfl) B.tuple (by decide +kernel) (pa_cons (pe_lc (own := [("part", 2)]) (g := gName 2) (tt := tYes) rfl scRPlace.nd (pi_list (pe_split (pv 0) pe_str)) (blkOk_by (N := nRP) (sc := defScope sRPlace) (by decide +kernel)) (fun _ _ _ _ _ => (pg_name (i := 2) scRPlace.nd rfl (.inl rfl))) (fun _ _ _ _ _ => pts_nil) (fun _ _ _ _ _ => (pe_call G_read_number hr (by rfl) g_read_number F_read_number.kp b_read_number .nil pass0 (pa_cons (pv 2) pa_nil)))) pa_nil)))
      (pss_cons (ps_if (PW.pt (pw_or (pt_cmpR op_in_seq pe_non (pv 1) (by with_unfolding_all rfl)) (pw_or1 (pt_cmpR op_gt (pe_callB call_len (by rfl) B.len PySem.boot_len (pa_cons (pv 1) pa_nil)) (pe_glob (v := .int 12) (by rfl) Z.g_MOST_INDEXES ⟨_, rfl⟩) (nomark _)))))
      (pss_one (ps_raise rfl (takes_of rfl rfl rfl rfl) (pmk_oex N.oex N.iC N.tI GI hr N.b .nil pass0 (by rfl) N.gC (pa_cons (pv 0) pa_nil))))
      pss_nil)
      (pss_one (ps_ret (pv 1)))))), ?_⟩
    refine ⟨.str z, rfl, rfl, _, rfl, ?_⟩
    rw [eqRoot]
    by_cases hroot : tl z = rootL
    · rw [decide_eq_true hroot]
      refine iteT ⟨Nat.zero_le _, fun o no => ?_⟩
      exact q [] (rd_root hroot) _ o (same_new no) upd_same
    · rw [decide_eq_false hroot]
      refine iteF ⟨.str z, rfl, ⟨_, rfl⟩, z, dotS, rfl, rfl, by decide +kernel, by rw [sizeLine_eq]; omega, fun L nL => ⟨L, rfl, ⟨_, SqL.of upd_same⟩, fun D hD => ?_⟩⟩
      have sL : Same H (upd H L (.lst ((Txt.split z dotS).map V.str))) := same_new nL
      have eL : (upd H L (.lst ((Txt.split z dotS).map V.str))) L = some (.lst ((Txt.split z dotS).map V.str)) := upd_same
      generalize upd H L (.lst ((Txt.split z dotS).map V.str)) = H1 at sL eL hD ⊢
      have hpl := split_len z
      refine lc_list (K := K) (a := L) (xs := (Txt.split z dotS).map V.str) (fun i H' => H' D = some (.lst ((((Txt.split z dotS).take i).map fun p => numOf (tl p)).map ov)) ∧ Same H1 H') ⟨upd_same, same_new hD⟩ (fun i H' _ ⟨_, s⟩ => SqL.of (s _ _ eL)) ?_ ?_
      · rintro i v H' hi ⟨hD', sm⟩
        rw [List.getElem?_map] at hi
        cases en : (Txt.split z dotS)[i]? with
        | none => rw [en] at hi; cases hi
        | some p =>
        rw [en] at hi; cases hi
        have hlt := (List.getElem?_eq_some_iff.mp en).1
        refine ⟨rfl, .str p, rfl, p, rfl, Nat.le_trans (piece_len (List.mem_of_getElem? en)) hz, fun H2 s2 => ⟨_, s2 _ _ hD', ?_, ?_, same_at (sm.trans s2) hD⟩⟩
        · rw [List.length_map, List.length_map, List.length_take]; exact small1000 (by omega)
        · rw [upd_same, ← take_mapO _ en, List.map_append]; rfl
      · rintro H' ⟨hD', sm⟩
        rw [List.take_of_length_le (by rw [List.length_map]; exact Nat.le_refl _)] at hD'
        refine ⟨D, _, rfl, .inl ⟨SqL.of hD', fun T nT => ?_⟩⟩
        have s3 : Same H (upd H' T (.tup (((Txt.split z dotS).map fun p => numOf (tl p)).map ov))) := same_new2 (sL.trans sm) nT
        have eT : (upd H' T (.tup (((Txt.split z dotS).map fun p => numOf (tl p)).map ov))) T = some (.tup (((Txt.split z dotS).map fun p => numOf (tl p)).map ov)) := upd_same
        generalize upd H' T (.tup (((Txt.split z dotS).map fun p => numOf (tl p)).map ov)) = H3 at s3 eT ⊢
        refine ⟨.ref T, rfl, T, _, rfl, .inr (SqT.of eT), rfl, flatO _, _, rfl, ?_⟩
        show (if inV .non _ = true then _ else _)
        rw [anyN]
        have erd := rd_parts hroot
        by_cases hn : none ∈ (Txt.split z dotS).map fun p => numOf (tl p)
        · rw [decide_eq_true hn]
          refine iteT (iteT ⟨.str z, rfl, raise_np N.oex N.fp fun d hd => qe (by rw [erd]; exact allSome_none.mpr hn) _ d s3 hd⟩)
        · rw [decide_eq_false hn]
          obtain ⟨ns, hns⟩ : ∃ ns, allSome ((Txt.split z dotS).map fun p => numOf (tl p)) = some ns := by
            cases h : allSome ((Txt.split z dotS).map fun p => numOf (tl p)) with
            | none => exact absurd (allSome_none.mp h) hn
            | some ns => exact ⟨ns, rfl⟩
          refine iteF ⟨.ref T, rfl, .ref T, _, rfl, .inr ⟨_, SqT.of eT, rfl⟩, _, 12, rfl, rfl, _, rfl, ?_⟩
          rw [decide_eq_false (by rw [List.length_map, List.length_map]; omega)]
          refine iteF ⟨.ref T, rfl, ?_⟩
          rw [allSome_is hns, ov_some] at eT
          exact q ns (by rw [erd]; exact hns) _ T s3 eT
end
end K74

set_option maxRecDepth 100000
set_option maxHeartbeats 4000000
namespace K74
open PySem PySem.Spec PyProof.Rows L2
def digS : Str := Str.ofString "0123456789"
theorem mem_digS (c : Nat) : decide (c ∈ digS.cps.toList) = isD c := by
  rw [show digS.cps.toList = [48, 49, 50, 51, 52, 53, 54, 55, 56, 57] by decide +kernel]
  unfold isD
  refine Bool.eq_iff_iff.mpr ?_
  simp
  omega
theorem eqE (z : Str) : decide (V.str z = V.str (Str.ofString "")) = decide (tl z = []) := by
  rw [eqT, show tl (Str.ofString "") = [] by decide +kernel]
/-- what is due for a word -/
def dueD (z : Str) : PyData := match rdW (tl z) with
  | none => .tuple [.str (Str.ofString "refused"), .str z, .bool true]
  | some ns => .tuple [.str (Str.ofString "read"), .tuple (ns.map fun n : Nat => PyData.int (n : Int))]
theorem due_some {z : Str} {ns : List Nat} (h : rdW (tl z) = some ns) : dueD z = .tuple [.str (Str.ofString "read"), .tuple (ns.map fun n : Nat => PyData.int (n : Int))] := by unfold dueD; rw [h]
theorem due_none {z : Str} (h : rdW (tl z) = none) : dueD z = .tuple [.str (Str.ofString "refused"), .str z, .bool true] := by unfold dueD; rw [h]
section
variable {P : Program} {w : World} {K : PySem.W.Frag} {mg : Str → Option Value} {base : Heap} {t1 t2 t3 : Tok}
/-! ### _law_place -/
def spPlace : Sp := fun vs H Q _ => ∃ (z : Str), vs = [.str z] ∧ z.length ≤ 1000 ∧ dots (tl z) ≤ 500 ∧
  (∀ ns, rdW (tl z) = some ns → ∀ H' a, Same H H' → H' a = some (.tup (ns.map nv)) → Q (.ref a) H') ∧
  (rdW (tl z) = none → ∀ H', Same H H' → Q .non H')
theorem scPlace : FnScope ["_law_word", "_law_place_here", "_law_part", "_law_sign"] ["_law_word"] (defScope sPlace) := ⟨rfl, rfl, rfl, by decide +kernel, rfl, by decide +kernel, by decide +kernel⟩
theorem ok_place {f : Addr} {fd : FuncData} (B : Blt mg) (F : Fun K "_law_place" "_law_place" sPlace f fd) : FnOk P w K mg base CX0 1 f fd ["_law_word"] spPlace := by
  refine F.ok scPlace (fun vs H Q E h => ?_) (fun cdv A0 outer s H vs Q E hr h => ?_)
  · obtain ⟨z, rfl, _⟩ := h; rfl
  · obtain ⟨z, rfl, hz, hd, q, qn⟩ := h
    refine ⟨_, (pss_cons (ps_if (pt_cmpR op_eq (pv 0) pe_str (nomark _))
      (pss_one (ps_ret (pe_tup pa_nil)))
      pss_nil)
      (pss_cons (ps_set (i := 1) scPlace.nd rfl (.inl rfl) (pe_lst pa_nil))
      (pss_cons (ps_for (PassesOwn.never) rfl (pi_list (pe_split (pv 0) pe_str)) (pg_name (i := 2) scPlace.nd rfl (.inl rfl))
      (pss_cons (ps_if (PW.pt (pw_or (pt_cmpR op_eq (pv 2) pe_str (nomark _)) (pw_or (pt_cmpR op_gt (pe_callB call_len (by rfl) B.len PySem.boot_len (pa_cons (pv 2) pa_nil)) pe_int (nomark _)) (pw_or1 (PW.pt (pw_and (pt_cmpR op_gt (pe_callB call_len (by rfl) B.len PySem.boot_len (pa_cons (pv 2) pa_nil)) pe_int (nomark _)) (pw_and1 (pt_cmpR op_eq (pe_ix ix_str (pv 2) pe_int (fun _ _ => rfl)) pe_str (nomark _)))))))))
       (pss_one (ps_ret pe_non))
       pss_nil)
       (pss_cons (ps_for (PassesOwn.never) rfl (pi_str (pv 2)) (pg_name (i := 3) scPlace.nd rfl (.inl rfl))
       (pss_one (ps_if (pt_cmpR op_notIn_sign (pv 3) pe_str (by with_unfolding_all rfl))
        (pss_one (ps_ret pe_non))
        pss_nil)))
       (pss_one (ps_expr (pe_bm PySem.F.plainAttrs_list PySem.F.slot_list_append PySem.F.type_list_append mt_append (pv 1) (pa_cons (pe_callTy call_int_str (by rfl) B.int (by decide +kernel) (pa_cons (pv 2) pa_nil)) pa_nil)))))))
      (pss_one (ps_ret (pe_callTy call_tuple_of (by rfl) B.tuple (by decide +kernel) (pa_cons (pv 1) pa_nil))))))), ?_⟩
    refine ⟨.str z, rfl, rfl, _, rfl, ?_⟩
    rw [eqRoot]
    by_cases hroot : tl z = rootL
    · rw [decide_eq_true hroot]
      refine iteT ⟨Nat.zero_le _, fun o no => ?_⟩
      exact q [] (rd_root hroot) _ o (same_new no) upd_same
    · rw [decide_eq_false hroot]
      refine iteF ⟨Nat.zero_le _, fun D hD => ?_⟩
      have sD : Same H (upd H D (.lst [])) := same_new hD
      have eD : (upd H D (.lst [])) D = some (.lst (([] : List Nat).map nv)) := upd_same
      generalize upd H D (.lst []) = H0 at sD eD ⊢
      refine ⟨.str z, rfl, ⟨_, rfl⟩, z, dotS, rfl, rfl, by decide +kernel, by rw [sizeLine_eq]; omega, fun L nL => ⟨L, rfl, ⟨_, SqL.of upd_same⟩, ?_⟩⟩
      have sL : Same H0 (upd H0 L (.lst ((Txt.split z dotS).map V.str))) := same_new nL
      have eL : (upd H0 L (.lst ((Txt.split z dotS).map V.str))) L = some (.lst ((Txt.split z dotS).map V.str)) := upd_same
      have nDL : D ≠ L := ne_of_none eD nL
      have eD1 := sL _ _ eD
      generalize upd H0 L (.lst ((Txt.split z dotS).map V.str)) = H1 at sL eL eD1 ⊢
      have hpl := split_len z
      have erd := rd_parts hroot
      have bad : ∀ (i : Nat) p, (Txt.split z dotS)[i]? = some p → numOf (tl p) = none → rdW (tl z) = none := fun i p hi hp => by
        rw [erd]
        exact allSome_none.mpr (by rw [← hp]; exact List.mem_map_of_mem (f := fun p => numOf (tl p)) (List.mem_of_getElem? hi))
      refine for_list (K := K) (a := L) (xs := (Txt.split z dotS).map V.str) (fun i σ H' => ∃ (y2 y3 : Option V) (ns : List Nat), σ = [some (.str z), some (.ref D), y2, y3] ∧ H' D = some (.lst (ns.map nv)) ∧ ((Txt.split z dotS).take i).map (fun p => numOf (tl p)) = ns.map some ∧ Same H H' ∧ H' L = some (.lst ((Txt.split z dotS).map V.str)))
        ⟨none, none, [], rfl, eD1, rfl, sD.trans sL, eL⟩ (fun i σ H' _ ⟨_, _, _, _, _, _, _, h⟩ => SqL.of h) ?_ ?_
      · rintro i v σ H' hi ⟨y2, y3, ns, rfl, hDi, hns, sm, hLi⟩
        rw [List.getElem?_map] at hi
        cases en : (Txt.split z dotS)[i]? with
        | none => rw [en] at hi; cases hi
        | some p =>
        rw [en] at hi; cases hi
        have hlt := (List.getElem?_eq_some_iff.mp en).1
        have hp1000 := Nat.le_trans (piece_len (List.mem_of_getElem? en)) hz
        have hpl2 := tl_len p
        have hnl : ns.length ≤ i := by
          have := congrArg List.length hns
          rw [List.length_map, List.length_map, List.length_take] at this; omega
        have hret : numOf (tl p) = none → ∀ H', Same H H' → Q .non H' := fun h => qn (bad i p en h)
        refine ⟨.str p, rfl, rfl, _, rfl, ?_⟩
        rw [eqE]
        by_cases h1 : tl p = []
        · rw [decide_eq_true h1]
          exact iteT (iteT (hret (numOf_nil h1) _ sm))
        · rw [decide_eq_false h1]
          refine iteF ⟨.str p, rfl, .str p, p.length, rfl, ⟨Nat.le_trans hp1000 (by decide), rfl⟩, (p.length : Int), 12, rfl, rfl, _, rfl, ?_⟩
          by_cases h2 : (12 : Int) < (p.length : Int)
          · rw [decide_eq_true h2]
            exact iteT (iteT (hret (numOf_long (by omega)) _ sm))
          · rw [decide_eq_false h2]
            obtain ⟨c, hc⟩ : ∃ c, (tl p)[0]? = some c := ⟨_, List.getElem?_eq_getElem (List.length_pos_iff.mpr h1)⟩
            have hat : atI p.cps.toList 0 = some c := atI_nat (j := 0) hc
            refine iteF ⟨.str p, rfl, .str p, p.length, rfl, ⟨Nat.le_trans hp1000 (by decide), rfl⟩, (p.length : Int), 1, rfl, rfl, _, rfl, ?_⟩
            by_cases hz0 : c = 48 ∧ 1 < p.length
            · rw [decide_eq_true (show (1 : Int) < (p.length : Int) by omega)]
              refine iteT ⟨.str p, rfl, p, 0, c, rfl, rfl, Nat.le_trans hp1000 (by decide), hat, rfl, _, rfl, ?_⟩
              rw [e0S, eqS, decide_eq_true hz0.1]
              exact iteT (hret (numOf_zero (by omega) (by rw [head_at hc, hz0.1])) _ sm)
            · have hh : 1 < (tl p).length → (tl p).head? ≠ some 48 := fun h e => hz0 ⟨by rw [head_at hc] at e; injection e, by omega⟩
              refine share ?_ (fun hE => ite2 (fun h3 => ⟨.str p, rfl, p, 0, c, rfl, rfl, Nat.le_trans hp1000 (by decide), hat, rfl, _, rfl, by
                have h3' : (1 : Int) < (p.length : Int) := of_decide_eq_true h3
                rw [e0S, eqS, decide_eq_false (fun h => hz0 ⟨h, by omega⟩)]
                exact iteF hE⟩) (fun h3 => iteF hE))
              refine ⟨.str p, rfl, p, rfl, ?_⟩
              refine for_it walk_str (fun j σ H2 => ∃ y3, σ = [some (.str z), some (.ref D), some (.str p), y3] ∧ H2 = H' ∧ ((tl p).take j).all isD = true) ⟨y3, rfl, rfl, rfl⟩ (fun _ _ _ _ _ => trivial) ?_ ?_
              · rintro j v σ H2 H3 hj ⟨y3, rfl, rfl, hall⟩ ⟨rfl, c, hc, rfl⟩
                have hc' : (tl p)[j]? = some c := by simpa [tl] using hc
                refine ⟨.str ⟨#[c]⟩, rfl, c, digS, rfl, rfl, _, rfl, ?_⟩
                rw [mem_digS]
                cases hcd : isD c with
                | false =>
                  refine iteT (hret (numOf_bad ?_) _ sm)
                  rw [List.all_eq_false]; exact ⟨c, List.mem_of_getElem? hc', by rw [hcd]; decide⟩
                | true =>
                  refine iteF ⟨_, rfl, rfl, ?_⟩
                  rw [List.take_add_one, hc', List.all_append, hall]
                  show (true && (isD c && true)) = true
                  rw [hcd]; rfl
              · rintro σ H2 ⟨y3, rfl, rfl, hall⟩
                have e : (tl p).take p.cps.size = tl p := List.take_of_length_le (by rw [tl_len]; exact Nat.le_refl _)
                rw [e] at hall
                have hnum := numOf_ok h1 (by omega) hh hall
                refine ⟨.ref D, rfl, .inl ⟨rfl, _, SqL.of hDi⟩, .str p, rfl, p, _, rfl, int_of h1 (by omega) hall, by omega, D, _, _, rfl, rfl, hDi, small1000 (by rw [List.length_map]; omega), ?_⟩
                refine ⟨_, _, ns ++ [NumText.digitsVal (tl p)], rfl, by rw [upd_same, List.map_append]; rfl, ?_, same_at sm hD, ?_⟩
                · rw [← take_mapO _ en, hns, hnum, List.map_append]; rfl
                · rw [upd_ne (Ne.symm nDL)]; exact hLi
      · rintro σ H' ⟨y2, y3, ns, rfl, hDi, hns, sm, hLi⟩
        rw [List.take_of_length_le (by rw [List.length_map]; exact Nat.le_refl _)] at hns
        refine ⟨.ref D, rfl, D, _, rfl, .inl ⟨SqL.of hDi, fun T nT => ?_⟩⟩
        exact q ns (by rw [erd, hns]; exact allSome_some) _ T (same_new2 sm nT) upd_same
/-! ### _law_due -/
def spDue : Sp := fun vs H Q _ => ∃ (z : Str), vs = [.str z] ∧ z.length ≤ 1000 ∧ dots (tl z) ≤ 11 ∧ ∀ H' x, Same H H' → Is H' x (dueD z) → Q x H'
theorem scDue : FnScope ["_law_word", "_law_place_here"] ["_law_word"] (defScope sDue) := ⟨rfl, rfl, rfl, by decide +kernel, rfl, by decide +kernel, by decide +kernel⟩
theorem ok_due {f f_place : Addr} {fd fd_place : FuncData} (B : Blt mg) (F : Fun K "_law_due" "_law_due" sDue f fd)
    (F_place : Fun K "_law_place" "_law_place" sPlace f_place fd_place) (b_place : Binds K fd_place ["_law_word"] []) (g_place : mg "_law_place" = some (.ref f_place)) :
    FnOk P w K mg base CX0 2 f fd ["_law_word"] spDue := by
  have G_place : FnOk P w K mg base CX0 1 f_place fd_place ["_law_word"] spPlace := ok_place B F_place
  refine F.ok scDue (fun vs H Q E h => ?_) (fun cdv A0 outer s H vs Q E hr h => ?_)
  · obtain ⟨z, rfl, _⟩ := h; rfl
  · obtain ⟨z, rfl, hz, hd, q⟩ := h
    refine ⟨_, (pss_cons (ps_set (i := 1) scDue.nd rfl (.inl rfl) (pe_call G_place hr (by rfl) g_place F_place.kp b_place .nil pass0 (pa_cons (pv 0) pa_nil)))
      (pss_cons (ps_if (pt_cmpR op_isN (pv 1) pe_non (nomark _))
      (pss_one (ps_ret (pe_tup (pa_cons pe_str (pa_cons (pv 0) (pa_cons pe_bl pa_nil))))))
      pss_nil)
      (pss_one (ps_ret (pe_tup (pa_cons pe_str (pa_cons (pv 1) pa_nil))))))), ?_⟩
    refine ⟨.str z, rfl, z, rfl, hz, by omega, fun ns h H' a sm ha => ?_, fun h H' sm => ?_⟩
    · refine ⟨.ref a, rfl, rfl, _, rfl, iteF ⟨.ref a, rfl, by show 2 ≤ sizeLine; decide, fun t nt => q _ _ (same_new2 sm nt) ?_⟩⟩
      rw [due_some h]
      exact Is.pair upd_same (.str _) (Is.ints (same_new nt _ _ ha))
    · refine ⟨.non, rfl, rfl, _, rfl, iteT ⟨.str z, rfl, by show 3 ≤ sizeLine; decide, fun t nt => q _ _ (same_new2 sm nt) ?_⟩⟩
      rw [due_none h]
      exact Is.trip upd_same (.str _) (.str _) (.bl _)
end
end K74

set_option maxRecDepth 100000
set_option maxHeartbeats 4000000
namespace K74
open PySem PySem.Spec PyProof.Rows L2
/-- what the errors' classes must say -/
structure Errs (K : PySem.W.Frag) (mg : Str → Option Value) (C CL CB CP : Addr) : Prop where
  gL : mg "LaidError" = some (.ref CL)
  gB : mg "BadCommand" = some (.ref CB)
  gP : mg "BadPattern" = some (.ref CP)
  ex : ExcC K C
  exm : PySem.W.exmOne K (.ref C) (.ref C) = some true
  k1 : PySem.W.kitOne K (.ref C) (.ref CL) = some true
  k2 : PySem.W.kitOne K (.ref C) (.type "ValueError") = some true
  k3 : PySem.W.kitOne K (.ref C) (.ref CB) = some false
  k4 : PySem.W.kitOne K (.ref C) (.ref CP) = some false
theorem count_cut (l : List Nat) (a b : Nat) (h : a ≤ b) : List.count 46 (l.take a) + List.count 46 (l.drop b) ≤ List.count 46 l := by
  have h1 : List.count 46 (l.drop b) ≤ List.count 46 (l.drop a) := (List.drop_sublist_drop_left l h).count_le 46
  have h2 : List.count 46 l = List.count 46 (l.take a) + List.count 46 (l.drop a) := by rw [← List.count_append, List.take_append_drop]
  omega
def signs12 : List Str := ["0", "1", "7", ".", " ", "-", "+", "a", "r", "_", ",", "o"].map Str.ofString
theorem signs12_ok : ∀ s ∈ signs12, s.length = 1 := by decide +kernel
theorem count_le (l : List Nat) : List.count 46 l ≤ l.length := List.count_le_length
def oddA : Str := Str.ofString "|.|..|root.|.root|root.0|0.root|Root|roo|rootroot|00|0.01|1..2|1.|.1|-1|+1|1,2| 1|1 |1. 2"
def oddB : Str := Str.ofString "|0x1|1_0|1e1|1000000000000|0|10.0.100|1\n|root\n|\n"
def barS : Str := Str.ofString "|"
theorem odd_tl : (Txt.split (oddA ++ oddB) barS).map tl = TL.spl [124] 0 [] (tl oddA ++ tl oddB) := by
  have h := TL.split_spl (oddA ++ oddB) barS (by decide +kernel) (TL.kind_ok (by decide +kernel))
  rw [show TL.tl barS = [124] by decide +kernel, show TL.tl (oddA ++ oddB) = tl oddA ++ tl oddB from tl_add _ _] at h
  exact h
theorem odd_lits : (TL.spl [124] 0 [] (tl oddA ++ tl oddB)).length = 30 ∧ ∀ l ∈ TL.spl [124] 0 [] (tl oddA ++ tl oddB), l.length ≤ 100 ∧ List.count 46 l ≤ 11 := by decide +kernel
theorem odd_len : (Txt.split (oddA ++ oddB) barS).length = 30 := by
  have := congrArg List.length odd_tl
  rw [List.length_map, odd_lits.1] at this; exact this
theorem odd_ok {z : Str} (h : z ∈ Txt.split (oddA ++ oddB) barS) : z.length ≤ 100 ∧ dots (tl z) ≤ 11 := by
  have h1 : tl z ∈ TL.spl [124] 0 [] (tl oddA ++ tl oddB) := by rw [← odd_tl]; exact List.mem_map_of_mem h
  have := odd_lits.2 _ h1
  rw [tl_len] at this; exact this
section
variable {P : Program} {w : World} {K : PySem.W.Frag} {mg : Str → Option Value} {base : Heap} {t1 t2 t3 : Tok}
/-! ### _law_read -/
abbrev nRd : List Str := ["_law_word", "_law_place_here", "e", "_law_kin"]
theorem scRead : FnScope nRd ["_law_word"] (defScope sRead) := ⟨rfl, rfl, rfl, by decide +kernel, rfl, by decide +kernel, by decide +kernel⟩
theorem ok_read {f C CL CB CP fI f_rplace f_read_number f_is_digit : Addr} {fd fdI fd_rplace fd_read_number fd_is_digit : FuncData} (B : Blt mg) (Z : Cst mg t1 t2 t3) (N : NoP K mg C fI fdI) (R : Errs K mg C CL CB CP) (F : Fun K "_law_read" "_law_read" sRead f fd)
    (F_rplace : Fun K "read_place" "read_place" sRPlace f_rplace fd_rplace) (b_rplace : Binds K fd_rplace ["word"] []) (g_rplace : mg "read_place" = some (.ref f_rplace))
    (F_read_number : Fun K "read_number" "read_number" sNum f_read_number fd_read_number) (b_read_number : Binds K fd_read_number ["word"] []) (g_read_number : mg "read_number" = some (.ref f_read_number))
    (F_is_digit : Fun K "_is_digit" "_is_digit" sDigit f_is_digit fd_is_digit) (b_is_digit : Binds K fd_is_digit ["char"] []) (g_is_digit : mg "_is_digit" = some (.ref f_is_digit)) :
    FnOk P w K mg base CX0 4 f fd ["_law_word"] spDue := by
  have xf : XfC K C := ⟨R.ex.hg, R.ex.hk, R.ex.hs, R.ex.hd⟩
  have G_rplace : FnOk P w K mg base (L2.CX P w) 3 f_rplace fd_rplace ["word"] (spRPlace C) := ok_rplace B Z N F_rplace F_read_number b_read_number g_read_number F_is_digit b_is_digit g_is_digit
  refine F.ok scRead (fun vs H Q E h => ?_) (fun cdv A0 outer s H vs Q E hr h => ?_)
  · obtain ⟨z, rfl, _⟩ := h; rfl
  · obtain ⟨z, rfl, hz, hd, q⟩ := h
    refine ⟨_, pss_cons (ps_try_as (i := 2) (Wout := fun _ _ _ _ => False) rfl rfl scRead.nd rfl rfl ⟨rfl, by decide, .inl N.gC⟩ takes0
        (fun W pn xe tk _ => pss_one (ps_set (i := 1) scRead.nd rfl (.inl rfl) (pe_callS G_rplace hr (by rfl) g_rplace F_rplace.kp b_rplace (fun σ => passAt tk σ) (pa_cons (pv 0) pa_nil))))
        (fun a oe cls d pn hz hf => pss_cons (ps_set (i := 3) scRead.nd rfl (.inl rfl) (pe_and (pe_callB (call_isD R.ex hz hf) (by rfl) B.isi (by decide +kernel) (pa_cons (pv 2) (pa_cons (pe_glob (v := .ref CL) (by rfl) R.gL rfl) pa_nil))) (pe_one (pe_callB (call_isD R.ex hz hf) (by rfl) B.isi (by decide +kernel) (pa_cons (pv 2) (pa_cons (pe_bltn (v := .ty "ValueError") (by rfl) B.ve (by decide +kernel) rfl) pa_nil))))))
          (pss_one (ps_ret (pe_tup (pa_cons pe_str (pa_cons (pe_xf xf N.fp hz hf (pv 2)) (pa_cons (pe_and (pv 3) (pe_and (pe_not (pe_callB (call_isD R.ex hz hf) (by rfl) B.isi (by decide +kernel) (pa_cons (pv 2) (pa_cons (pe_glob (v := .ref CB) (by rfl) R.gB rfl) pa_nil)))) (pe_one (pe_not (pe_callB (call_isD R.ex hz hf) (by rfl) B.isi (by decide +kernel) (pa_cons (pv 2) (pa_cons (pe_glob (v := .ref CP) (by rfl) R.gP rfl) pa_nil))))))) pa_nil))))))))
      (pss_one (ps_ret (pe_tup (pa_cons pe_str (pa_cons (pv 1) pa_nil))))), ?_⟩
    have z2 : 2 ≤ sizeLine := by decide
    have z3 : 3 ≤ sizeLine := by decide
    refine ⟨.str z, rfl, z, rfl, hz, hd, fun ns h H' a sm ha => ?_, fun h H' d sm hd => ⟨true, R.exm, fun _ a ha => ?_, fun q => nomatch q⟩⟩
    · refine ⟨.ref a, rfl, z2, fun t nt => q _ _ (same_new2 sm nt) ?_⟩
      rw [due_some h]
      exact Is.pair upd_same (.str _) (Is.ints (same_new nt _ _ ha))
    · have isr : ∀ {c : V} {cv : Value}, (c = .ref CL ∧ cv = .ref CL) ∨ (c = .ty "ValueError" ∧ cv = .type "ValueError") ∨ (c = .ref CB ∧ cv = .ref CB) ∨ (c = .ref CP ∧ cv = .ref CP) → ∀ u, RelV c u → u = cv := by
        rintro c cv (⟨rfl, rfl⟩ | ⟨rfl, rfl⟩ | ⟨rfl, rfl⟩ | ⟨rfl, rfl⟩) u hu <;> exact hu
      refine ⟨.ref a, rfl, .ref CL, .ref CL, true, d, _, rfl, rfl, isr (.inl ⟨rfl, rfl⟩), R.k1, rfl, upd_same, _, rfl, iteT ?_⟩
      refine ⟨.ref a, rfl, .ty "ValueError", .type "ValueError", true, d, _, rfl, rfl, isr (.inr (.inl ⟨rfl, rfl⟩)), R.k2, rfl, upd_same, ?_⟩
      refine ⟨.ref a, rfl, rfl, rfl, d, _, .str z, rfl, upd_same, rfl, .bl true, rfl, _, rfl, iteT ?_⟩
      refine ⟨.ref a, rfl, .ref CB, .ref CB, false, d, _, rfl, rfl, isr (.inr (.inr (.inl ⟨rfl, rfl⟩))), R.k3, rfl, upd_same, _, rfl, _, rfl, iteT ?_⟩
      refine ⟨.ref a, rfl, .ref CP, .ref CP, false, d, _, rfl, rfl, isr (.inr (.inr (.inr ⟨rfl, rfl⟩))), R.k4, rfl, upd_same, _, rfl, z3, fun t nt => ?_⟩
      refine q _ _ (same_new2 (same_new2 sm hd) nt) ?_
      rw [due_none h]
      exact Is.trip upd_same (.str _) (.str _) (.bl _)
end
end K74

set_option maxRecDepth 100000
set_option maxHeartbeats 4000000
namespace K74
open PySem PySem.Spec PyProof.Rows L2
section
variable {P : Program} {w : World} {K : PySem.W.Frag} {mg : Str → Option Value} {base : Heap} {t1 t2 t3 : Tok}
/-! ### _law_spoilt -/
def spSpoilt : Sp := fun vs H Q _ => ∃ (z : Str) (y x p : Int), vs = [.str z, .int y, .int x, .int p] ∧ z.length ≤ 500 ∧ 0 ≤ p ∧ p < 12 ∧
  ∀ z' : Str, z'.length ≤ z.length + 1 → dots (tl z') ≤ dots (tl z) + 1 → ∀ H', Same H H' → Q (.str z') H'
theorem scSpoilt : FnScope ["_law_word", "_law_way", "_law_at", "_law_pick", "_law_sign", "_law_spot"] ["_law_word", "_law_way", "_law_at", "_law_pick"] (defScope sSpoilt) := ⟨rfl, rfl, rfl, by decide +kernel, rfl, by decide +kernel, by decide +kernel⟩
theorem ok_spoilt {f : Addr} {fd : FuncData} (B : Blt mg) (F : Fun K "_law_spoilt" "_law_spoilt" sSpoilt f fd) : FnOk P w K mg base CX0 1 f fd ["_law_word", "_law_way", "_law_at", "_law_pick"] spSpoilt := by
  refine F.ok scSpoilt (fun vs H Q E h => ?_) (fun cdv A0 outer s H vs Q E hr h => ?_)
  · obtain ⟨z, y, x, p, rfl, _⟩ := h; rfl
  · obtain ⟨z, y, x, p, rfl, hz, p0, p12, q⟩ := h
    refine ⟨_, (pss_cons (ps_set (i := 4) scSpoilt.nd rfl (.inl rfl) (pe_ix ix_list (pe_lst (pa_cons pe_str (pa_cons pe_str (pa_cons pe_str (pa_cons pe_str (pa_cons pe_str (pa_cons pe_str (pa_cons pe_str (pa_cons pe_str (pa_cons pe_str (pa_cons pe_str (pa_cons pe_str (pa_cons pe_str pa_nil))))))))))))) (pv 3) (fun _ _ => rfl)))
      (pss_cons (ps_set (i := 5) scSpoilt.nd rfl (.inl rfl) (pe_op op_modN (pe_callTy call_int1 (by rfl) B.int (by decide +kernel) (pa_cons (pv 2) pa_nil)) (pe_op op_add (pe_callB call_len (by rfl) B.len PySem.boot_len (pa_cons (pv 0) pa_nil)) pe_int)))
      (pss_cons (ps_if (pt_cmpR op_eq (pv 1) pe_int (nomark _))
      (pss_one (ps_ret (pe_op op_add_str (pe_op op_add_str (pe_slice sl_str (pv 0) po_none (po_some (pv 5))) (pv 4)) (pe_slice sl_str (pv 0) (po_some (pv 5)) po_none))))
      pss_nil)
      (pss_cons (ps_if (pt_cmpR op_eq (pv 1) pe_int (nomark _))
      (pss_one (ps_ret (pe_op op_add_str (pe_slice sl_str (pv 0) po_none (po_some (pv 5))) (pe_slice sl_str (pv 0) (po_some (pe_op op_add (pv 5) pe_int)) po_none))))
      pss_nil)
      (pss_one (ps_ret (pe_op op_add_str (pe_op op_add_str (pe_slice sl_str (pv 0) po_none (po_some (pv 5))) (pv 4)) (pe_slice sl_str (pv 0) (po_some (pe_op op_add (pv 5) pe_int)) po_none)))))))), ?_⟩
    refine ⟨by show 12 ≤ sizeLine; decide, fun L nL => ?_⟩
    have sL : Same H (upd H L (.lst (signs12.map V.str))) := same_new nL
    have eL : (upd H L (.lst (signs12.map V.str))) L = some (.lst (signs12.map V.str)) := upd_same
    obtain ⟨k, rfl⟩ : ∃ k : Nat, p = (k : Int) := ⟨p.toNat, by omega⟩
    have hk : k < signs12.length := by show k < 12; omega
    have hs := signs12_ok _ (List.getElem_mem hk)
    refine ⟨.int (k : Int), rfl, L, signs12.map V.str, (k : Int), .str (signs12[k]'hk), rfl, rfl, SqL.of eL, atI_nat (by rw [List.getElem?_map, List.getElem?_eq_getElem hk]; rfl), ?_⟩
    have q' := fun z' h1 h2 => q z' h1 h2 _ sL
    show _
    generalize signs12[k]'hk = sg at hs ⊢
    have hz16 : z.length ≤ sizeLine := Nat.le_trans hz (by decide)
    refine ⟨.int x, rfl, .inl ⟨x, rfl, .str z, rfl, .str z, z.length, rfl, ⟨hz16, rfl⟩, _, 1, rfl, rfl, x, _, rfl, rfl, (show ((z.length : Int) + 1) ≠ 0 by omega), ?_⟩⟩
    have b0 : 0 ≤ x.fmod ((z.length : Int) + 1) := Int.fmod_nonneg_of_pos _ (by omega)
    have b1 : x.fmod ((z.length : Int) + 1) < (z.length : Int) + 1 := Int.fmod_lt_of_pos _ (by omega)
    obtain ⟨n, en⟩ : ∃ n : Nat, x.fmod ((z.length : Int) + 1) = (n : Int) := ⟨(x.fmod ((z.length : Int) + 1)).toNat, by omega⟩
    dsimp only
    rw [en] at b0 b1 ⊢
    have hl := tl_len z
    have hn : n ≤ z.length := by omega
    have l1 : (cutS z none (some (n : Int))).length = n := by rw [← tl_len, cut_to, List.length_take]; omega
    have l2 : (cutS z (some (n : Int)) none).length = z.length - n := by rw [← tl_len, cut_from, List.length_drop]; omega
    have l3 : (cutS z (some ((n : Int) + 1)) none).length ≤ z.length - n := by
      rw [show ((n : Int) + 1) = ((n + 1 : Nat) : Int) by omega, ← tl_len, cut_from, List.length_drop]; omega
    have cs : List.count 46 (tl sg) ≤ 1 := by have := count_le (tl sg); rw [tl_len] at this; omega
    have c1 := count_cut (tl z) n n (Nat.le_refl _)
    have c2 := count_cut (tl z) n (n + 1) (by omega)
    refine ⟨.int y, rfl, rfl, _, rfl, ite2 (fun _ => ?_) (fun _ => ⟨.int y, rfl, rfl, _, rfl, ite2 (fun _ => ?_) (fun _ => ?_)⟩)⟩
    · refine ⟨.str z, rfl, .int (n : Int), rfl, (n : Int), rfl, z, rfl, hz16, .str sg, rfl, _, _, rfl, rfl, by rw [l1, sizeLine_eq]; omega, .str z, rfl, .int (n : Int), rfl, (n : Int), rfl, z, rfl, hz16, _, _, rfl, rfl, by rw [len_add, l1, l2, sizeLine_eq]; omega, ?_⟩
      refine q' _ (by rw [len_add, len_add, l1, l2]; omega) ?_
      show List.count 46 (tl _) ≤ _
      rw [tl_add, tl_add, List.count_append, List.count_append, cut_to, cut_from]
      show _ ≤ List.count 46 (tl z) + 1
      omega
    · refine ⟨.str z, rfl, .int (n : Int), rfl, (n : Int), rfl, z, rfl, hz16, .str z, rfl, .int (n : Int), rfl, (n : Int), 1, rfl, rfl, (n : Int) + 1, rfl, z, rfl, hz16, _, _, rfl, rfl, by rw [l1, sizeLine_eq]; omega, ?_⟩
      refine q' _ (by rw [len_add, l1]; omega) ?_
      show List.count 46 (tl _) ≤ _
      rw [tl_add, List.count_append, cut_to, show ((n : Int) + 1) = ((n + 1 : Nat) : Int) by omega, cut_from]
      show _ ≤ List.count 46 (tl z) + 1
      omega
    · refine ⟨.str z, rfl, .int (n : Int), rfl, (n : Int), rfl, z, rfl, hz16, .str sg, rfl, _, _, rfl, rfl, by rw [l1, sizeLine_eq]; omega, .str z, rfl, .int (n : Int), rfl, (n : Int), 1, rfl, rfl, (n : Int) + 1, rfl, z, rfl, hz16, _, _, rfl, rfl, by rw [len_add, l1, sizeLine_eq]; omega, ?_⟩
      refine q' _ (by rw [len_add, len_add, l1]; omega) ?_
      show List.count 46 (tl _) ≤ _
      rw [tl_add, tl_add, List.count_append, List.count_append, cut_to, show ((n : Int) + 1) = ((n + 1 : Nat) : Int) by omega, cut_from]
      show _ ≤ List.count 46 (tl z) + 1
      omega
/-! ### _law_odd -/
def spOdd : Sp := fun vs H Q _ => ∃ (p : Int), vs = [.int p] ∧ 0 ≤ p ∧ p < 30 ∧ ∀ z' : Str, z'.length ≤ 100 → dots (tl z') ≤ 11 → ∀ H', Same H H' → Q (.str z') H'
theorem scOdd : FnScope ["_law_pick", "_law_text"] ["_law_pick"] (defScope sOdd) := ⟨rfl, rfl, rfl, by decide +kernel, rfl, by decide +kernel, by decide +kernel⟩
theorem odd_sz : oddA.length + oddB.length ≤ 300 := by decide +kernel
theorem ok_odd {f : Addr} {fd : FuncData} (B : Blt mg) (F : Fun K "_law_odd" "_law_odd" sOdd f fd) : FnOk P w K mg base CX0 1 f fd ["_law_pick"] spOdd := by
  refine F.ok scOdd (fun vs H Q E h => ?_) (fun cdv A0 outer s H vs Q E hr h => ?_)
  · obtain ⟨p, rfl, _⟩ := h; rfl
  · obtain ⟨p, rfl, p0, p30, q⟩ := h
    refine ⟨_, (pss_cons (ps_set (i := 1) scOdd.nd rfl (.inl rfl) pe_str)
      (pss_cons (ps_set (i := 1) scOdd.nd rfl (.inl rfl) (pe_op op_add_str (pv 1) pe_str))
      (pss_one (ps_ret (pe_ix ix_list (pe_split (pv 1) pe_str) (pv 0) (fun _ _ => rfl)))))), ?_⟩
    have hsz := odd_sz
    refine ⟨_, rfl, oddA, oddB, rfl, rfl, by rw [sizeLine_eq]; omega, ?_⟩
    refine ⟨_, rfl, ⟨_, rfl⟩, oddA ++ oddB, barS, rfl, rfl, by decide +kernel, by rw [len_add, sizeLine_eq]; omega, fun L nL => ?_⟩
    have sL : Same H (upd H L (.lst ((Txt.split (oddA ++ oddB) barS).map V.str))) := same_new nL
    have eL : (upd H L (.lst ((Txt.split (oddA ++ oddB) barS).map V.str))) L = some (.lst ((Txt.split (oddA ++ oddB) barS).map V.str)) := upd_same
    obtain ⟨k, rfl⟩ : ∃ k : Nat, p = (k : Int) := ⟨p.toNat, by omega⟩
    have hk : k < (Txt.split (oddA ++ oddB) barS).length := by rw [odd_len]; omega
    have ho := odd_ok (List.getElem_mem hk)
    refine ⟨.int (k : Int), rfl, L, _, (k : Int), .str ((Txt.split (oddA ++ oddB) barS)[k]'hk), rfl, rfl, SqL.of eL, atI_nat (by rw [List.getElem?_map, List.getElem?_eq_getElem hk]; rfl), ?_⟩
    exact q _ ho.1 ho.2 _ sL
end
end K74

set_option maxRecDepth 100000
set_option maxHeartbeats 4000000
namespace K74
open PySem PySem.Spec PyProof.Rows L2
/-! ### layings -/
abbrev Stp := Nat × Option Nat
def Steps (H : Hp) (vs : List V) (xs : List Stp) : Prop := vs.length = xs.length ∧ ∀ (i : Nat) (v : V) (x : Stp), vs[i]? = some v → xs[i]? = some x → ∃ t, v = .ref t ∧ H t = some (.tup [nv x.1, ov x.2])
theorem Steps.nil {H : Hp} : Steps H [] [] := ⟨rfl, fun i v x h => by simp at h⟩
theorem Steps.tups {H H' : Hp} {vs : List V} {xs : List Stp} (h : Steps H vs xs) (s : ∀ b ys, H b = some (.tup ys) → H' b = some (.tup ys)) : Steps H' vs xs :=
  ⟨h.1, fun i v x a b => by obtain ⟨t, e, ht⟩ := h.2 i v x a b; exact ⟨t, e, s _ _ ht⟩⟩
theorem Steps.same {H H' : Hp} {vs : List V} {xs : List Stp} (h : Steps H vs xs) (s : Same H H') : Steps H' vs xs := h.tups fun _ _ e => s _ _ e
theorem Steps.snoc {H : Hp} {vs : List V} {xs : List Stp} {t : Addr} {x : Stp} (h : Steps H vs xs) (ht : H t = some (.tup [nv x.1, ov x.2])) : Steps H (vs ++ [.ref t]) (xs ++ [x]) := by
  obtain ⟨hl, hi⟩ := h
  refine ⟨by rw [List.length_append, List.length_append, hl]; rfl, fun i v y a b => ?_⟩
  by_cases h : i < vs.length
  · rw [List.getElem?_append_left h] at a
    rw [List.getElem?_append_left (by omega)] at b
    exact hi i v y a b
  · have h2 := (List.getElem?_eq_some_iff.mp a).1
    rw [List.length_append, List.length_singleton] at h2
    obtain rfl : i = vs.length := by omega
    rw [List.getElem?_append_right (Nat.le_refl _), Nat.sub_self] at a
    rw [List.getElem?_append_right (by omega), hl, Nat.sub_self] at b
    cases a; cases b
    exact ⟨t, rfl, ht⟩
theorem Steps.get {H : Hp} {vs : List V} {xs : List Stp} {i : Nat} {v : V} (h : Steps H vs xs) (hv : vs[i]? = some v) : ∃ x t, xs[i]? = some x ∧ v = .ref t ∧ H t = some (.tup [nv x.1, ov x.2]) := by
  have hi := (List.getElem?_eq_some_iff.mp hv).1
  have hx : xs[i]? = some (xs[i]'(by have := h.1; omega)) := List.getElem?_eq_getElem _
  obtain ⟨t, e, ht⟩ := h.2 i v _ hv hx
  exact ⟨_, t, hx, e, ht⟩
def GoodS (x : Stp) : Prop := x.1 < 1000 ∧ ∀ f, x.2 = some f → f < 1000
def colS : Str := Str.ofString " column "
def line (x : Stp) : Str := match x.2 with
  | none => nS x.1
  | some f => nS x.1 ++ colS ++ nS f
theorem emp_add (a : Str) : Str.empty ++ a = a := str_eq (by rw [tl_add]; rfl)
theorem nS_len {n : Nat} (h : n < 1000) : (nS n).length ≤ 12 := by rw [← tl_len, tl_nS]; exact TL.numL_len (by decide) (by omega)
theorem col_len : colS.length = 8 := by decide +kernel
theorem log_ok3 {n : Nat} (h : n < 1000) : (n : Int).natAbs.log2 < 1920 := log_ok (by omega)
theorem take_mapLn (xs : List Stp) {i : Nat} {x : Stp} (h : xs[i]? = some x) : (xs.take i).map line ++ [line x] = (xs.take (i + 1)).map line := by
  rw [List.take_add_one, h, List.map_append]; rfl
section
variable {P : Program} {w : World} {K : PySem.W.Frag} {mg : Str → Option Value} {base : Heap} {t1 t2 t3 : Tok}
/-! ### write_laying -/
def spLns : Sp := fun vs H Q _ => ∃ (a : Addr) (us : List V) (xs : List Stp), vs = [.ref a] ∧ H a = some (.tup us) ∧ Steps H us xs ∧ xs.length ≤ 8 ∧ (∀ x ∈ xs, GoodS x) ∧
  ∀ H' D, Same H H' → H D = none → H' D = some (.lst ((xs.map line).map V.str)) → Q (.ref D) H'
theorem scWLay : FnScope ["laying", "lines", "end", "figures"] ["laying"] (defScope sWLay) := ⟨rfl, rfl, rfl, by decide +kernel, rfl, by decide +kernel, by decide +kernel⟩
theorem ok_wlay {f : Addr} {fd : FuncData} (B : Blt mg) (F : Fun K "write_laying" "write_laying" sWLay f fd) : FnOk P w K mg base CX0 1 f fd ["laying"] spLns := by
  refine F.ok scWLay (fun vs H Q E h => ?_) (fun cdv A0 outer s H vs Q E hr h => ?_)
  · obtain ⟨a, us, xs, rfl, _⟩ := h; rfl
  · obtain ⟨a, us, xs, rfl, ha, hst, h8, hg, q⟩ := h
    refine ⟨_, (pss_cons (ps_set (i := 1) scWLay.nd rfl (.inl rfl) (pe_lst pa_nil))
      (pss_cons (ps_for (PassesOwn.never) rfl (pi_tup (pv 0)) (pg_tup rfl (pgs_cons (pg_name (i := 2) scWLay.nd rfl (.inl rfl)) (pgs_cons (pg_name (i := 3) scWLay.nd rfl (.inl rfl)) pgs_nil)))
      (pss_one (ps_expr (pe_bm PySem.F.plainAttrs_list PySem.F.slot_list_append PySem.F.type_list_append mt_append (pv 1) (pa_cons (pe_ifExp (pt_cmpR op_isN (pv 3) pe_non (nomark _)) (pe_callTy call_str_int (by rfl) B.str (by decide +kernel) (pa_cons (pv 2) pa_nil)) (pe_joined (.cons (pe_fmt (pv 2)) (.cons pe_str (.cons (pe_fmt (pv 3)) .nil))))) pa_nil)))))
      (pss_one (ps_ret (pv 1))))), ?_⟩
    refine ⟨Nat.zero_le _, fun D hD => ?_⟩
    have hcl := col_len
    refine ⟨.ref a, rfl, a, rfl, ⟨_, SqT.of (same_new hD _ _ ha)⟩, for_tup (K := K) (a := a) (xs := us) (fun i σ H' => ∃ (y2 y3 : Option V), σ = [some (.ref a), some (.ref D), y2, y3] ∧ Same H H' ∧ H' D = some (.lst (((xs.take i).map line).map V.str)))
      ⟨none, none, rfl, same_new hD, upd_same⟩ (fun i σ H' _ ⟨_, _, _, s, _⟩ => SqT.of (s _ _ ha)) ?_ ?_⟩
    · rintro i v σ H' hi ⟨y2, y3, rfl, sm, hDi⟩
      obtain ⟨x, t, hx, rfl, ht⟩ := hst.get hi
      have gx := hg x (List.mem_of_getElem? hx)
      have hxl := (List.getElem?_eq_some_iff.mp hx).1
      have hsz : ((((xs.take i).map line).map V.str)).length < sizeLine := by
        rw [List.length_map, List.length_map, List.length_take]; exact small1000 (by omega)
      have fin : ∀ z, z = line x → H' D = some (.lst (((xs.take i).map line).map V.str)) → ∃ (y2 y3 : Option V), [some (.ref a), some (.ref D), some (nv x.1), some (ov x.2)] = [some (.ref a), some (.ref D), y2, y3] ∧ Same H (upd H' D (.lst (((xs.take i).map line).map V.str ++ [.str z]))) ∧ upd H' D (.lst (((xs.take i).map line).map V.str ++ [.str z])) D = some (.lst (((xs.take (i + 1)).map line).map V.str)) := by
        rintro z rfl _
        exact ⟨_, _, rfl, same_at sm hD, by rw [upd_same, map_snocS, take_mapLn _ hx]⟩
      refine ⟨t, _, rfl, SqT.of (sm _ _ ht), rfl, nv x.1, _, rfl, ov x.2, _, rfl, rfl, ?_⟩
      refine ⟨.ref D, rfl, .inl ⟨rfl, _, SqL.of hDi⟩, ov x.2, rfl, rfl, _, rfl, ?_⟩
      have n1 := nS_len gx.1
      cases e : x.2 with
      | none =>
        refine iteT ⟨nv x.1, rfl, (x.1 : Int), rfl, log_ok3 gx.1, D, _, _, rfl, rfl, hDi, hsz, ?_⟩
        have := fin (nS x.1) (by unfold line; rw [e]) hDi
        rw [e] at this; exact this
      | some f =>
        have n2 := nS_len (gx.2 f e)
        refine iteF ⟨nv x.1, rfl, .inr ⟨(x.1 : Int), rfl, log_ok3 gx.1, nS x.1, rfl, by rw [emp_add, sizeLine_eq]; omega, colS, rfl, by rw [emp_add, len_add, sizeLine_eq]; omega, .int (f : Int), rfl, .inr ⟨(f : Int), rfl, log_ok3 (gx.2 f e), nS f, rfl, by rw [emp_add, len_add, len_add, sizeLine_eq]; omega, D, _, _, rfl, rfl, hDi, hsz, ?_⟩⟩⟩
        have := fin (Str.empty ++ nS x.1 ++ colS ++ nS f) (by unfold line; rw [e, emp_add]) hDi
        rw [e] at this; exact this
    · rintro σ H' ⟨y2, y3, rfl, sm, hDi⟩
      rw [List.take_of_length_le (by rw [hst.1]; exact Nat.le_refl _)] at hDi
      exact ⟨.ref D, rfl, q H' D sm hD hDi⟩
/-! ### _law_lines -/
theorem scLines : FnScope ["_law_laying_here", "_law_lines_here", "_law_step"] ["_law_laying_here"] (defScope sLines) := ⟨rfl, rfl, rfl, by decide +kernel, rfl, by decide +kernel, by decide +kernel⟩
theorem ok_lines {f : Addr} {fd : FuncData} (B : Blt mg) (F : Fun K "_law_lines" "_law_lines" sLines f fd) : FnOk P w K mg base CX0 1 f fd ["_law_laying_here"] spLns := by
  refine F.ok scLines (fun vs H Q E h => ?_) (fun cdv A0 outer s H vs Q E hr h => ?_)
  · obtain ⟨a, us, xs, rfl, _⟩ := h; rfl
  · obtain ⟨a, us, xs, rfl, ha, hst, h8, hg, q⟩ := h
    refine ⟨_, (pss_cons (ps_set (i := 1) scLines.nd rfl (.inl rfl) (pe_lst pa_nil))
      (pss_cons (ps_for (PassesOwn.never) rfl (pi_tup (pv 0)) (pg_name (i := 2) scLines.nd rfl (.inl rfl))
      (pss_one (ps_if (pt_cmpR op_isN (pe_ix ix_tup (pv 2) pe_int (fun _ _ => rfl)) pe_non (nomark _))
       (pss_one (ps_expr (pe_bm PySem.F.plainAttrs_list PySem.F.slot_list_append PySem.F.type_list_append mt_append (pv 1) (pa_cons (pe_callTy call_str_int (by rfl) B.str (by decide +kernel) (pa_cons (pe_ix ix_tup (pv 2) pe_int (fun _ _ => rfl)) pa_nil)) pa_nil))))
       (pss_one (ps_expr (pe_bm PySem.F.plainAttrs_list PySem.F.slot_list_append PySem.F.type_list_append mt_append (pv 1) (pa_cons (pe_op op_add_str (pe_op op_add_str (pe_callTy call_str_int (by rfl) B.str (by decide +kernel) (pa_cons (pe_ix ix_tup (pv 2) pe_int (fun _ _ => rfl)) pa_nil)) pe_str) (pe_callTy call_str_int (by rfl) B.str (by decide +kernel) (pa_cons (pe_ix ix_tup (pv 2) pe_int (fun _ _ => rfl)) pa_nil))) pa_nil)))))))
      (pss_one (ps_ret (pv 1))))), ?_⟩
    refine ⟨Nat.zero_le _, fun D hD => ?_⟩
    have hcl := col_len
    refine ⟨.ref a, rfl, a, rfl, ⟨_, SqT.of (same_new hD _ _ ha)⟩, for_tup (K := K) (a := a) (xs := us) (fun i σ H' => ∃ (y2 : Option V), σ = [some (.ref a), some (.ref D), y2] ∧ Same H H' ∧ H' D = some (.lst (((xs.take i).map line).map V.str)))
      ⟨none, rfl, same_new hD, upd_same⟩ (fun i σ H' _ ⟨_, _, s, _⟩ => SqT.of (s _ _ ha)) ?_ ?_⟩
    · rintro i v σ H' hi ⟨y2, rfl, sm, hDi⟩
      obtain ⟨x, t, hx, rfl, ht⟩ := hst.get hi
      have gx := hg x (List.mem_of_getElem? hx)
      have hxl := (List.getElem?_eq_some_iff.mp hx).1
      have hsz : ((((xs.take i).map line).map V.str)).length < sizeLine := by
        rw [List.length_map, List.length_map, List.length_take]; exact small1000 (by omega)
      have fin : ∀ z, z = line x → ∃ (y2 : Option V), [some (.ref a), some (.ref D), some (.ref t)] = [some (.ref a), some (.ref D), y2] ∧ Same H (upd H' D (.lst (((xs.take i).map line).map V.str ++ [.str z]))) ∧ upd H' D (.lst (((xs.take i).map line).map V.str ++ [.str z])) D = some (.lst (((xs.take (i + 1)).map line).map V.str)) := by
        rintro z rfl
        exact ⟨_, rfl, same_at sm hD, by rw [upd_same, map_snocS, take_mapLn _ hx]⟩
      have st := SqT.of (K := K) (sm _ _ ht)
      refine ⟨.ref t, rfl, t, _, 1, ov x.2, rfl, rfl, st, atI_nat (j := 1) rfl, rfl, _, rfl, ?_⟩
      have n1 := nS_len gx.1
      cases e : x.2 with
      | none =>
        refine iteT ⟨.ref D, rfl, .inl ⟨rfl, _, SqL.of hDi⟩, .ref t, rfl, t, _, 0, nv x.1, rfl, rfl, st, atI_nat (j := 0) rfl, (x.1 : Int), rfl, log_ok3 gx.1, D, _, _, rfl, rfl, hDi, hsz, ?_⟩
        exact fin (nS x.1) (by unfold line; rw [e])
      | some f =>
        have n2 := nS_len (gx.2 f e)
        have at1 : atI [nv x.1, ov x.2] 1 = some (.int (f : Int)) := by rw [e]; exact atI_nat (j := 1) rfl
        refine iteF ⟨.ref D, rfl, .inl ⟨rfl, _, SqL.of hDi⟩, .ref t, rfl, t, _, 0, nv x.1, rfl, rfl, st, atI_nat (j := 0) rfl, (x.1 : Int), rfl, log_ok3 gx.1, nS x.1, colS, rfl, rfl, by rw [sizeLine_eq]; omega, .ref t, rfl, t, _, 1, .int (f : Int), rfl, rfl, st, at1, (f : Int), rfl, log_ok3 (gx.2 f e), nS x.1 ++ colS, nS f, rfl, rfl, by rw [len_add, sizeLine_eq]; omega, D, _, _, rfl, rfl, hDi, hsz, ?_⟩
        exact fin _ (by unfold line; rw [e])
    · rintro σ H' ⟨y2, rfl, sm, hDi⟩
      rw [List.take_of_length_le (by rw [hst.1]; exact Nat.le_refl _)] at hDi
      exact ⟨.ref D, rfl, q H' D sm hD hDi⟩
/-! ### _law_laying -/
def spLaying (K : PySem.W.Frag) : Sp := fun vs H Q _ => ∃ (c : Int), vs = [.int c] ∧ ∀ H' a us xs, Same H H' → H' a = some (.tup us) → Steps H' us xs → xs.length ≤ 8 → (∀ x ∈ xs, GoodS x) → Q (.ref a) H'
abbrev nLy : List Str := ["_law_cell_here", "_law_limits", "_law_k", "_law_row_here", "_law_steps", "_law_end", "_law_left", "_law_figures"]
theorem scLaying : FnScope nLy ["_law_cell_here"] (defScope sLaying) := ⟨rfl, rfl, rfl, by decide +kernel, rfl, by decide +kernel, by decide +kernel⟩
theorem ok_laying {f f_row : Addr} {fd fd_row : FuncData} (B : Blt mg) (F : Fun K "_law_laying" "_law_laying" sLaying f fd)
    (F_row : Fun K "_law_row" "_law_row" sRow f_row fd_row) (b_row : Binds K fd_row ["_law_cell_here", "_law_limits"] []) (g_row : mg "_law_row" = some (.ref f_row)) :
    FnOk P w K mg base CX0 2 f fd ["_law_cell_here"] (spLaying K) := by
  have G_row : FnOk P w K mg base CX0 1 f_row fd_row ["_law_cell_here", "_law_limits"] (spRow K) := ok_row B F_row
  refine F.ok scLaying (fun vs H Q E h => ?_) (fun cdv A0 outer s H vs Q E hr h => ?_)
  · obtain ⟨c, rfl, _⟩ := h; rfl
  · obtain ⟨c, rfl, q⟩ := h
    refine ⟨_, (pss_cons (ps_set (i := 1) scLaying.nd rfl (.inl rfl) (pe_lst (pa_cons pe_int pa_nil)))
      (pss_cons (ps_for (PassesOwn.never) rfl (pi_range1 (by rfl) B.range (pa_cons pe_int pa_nil)) (pg_name (i := 2) scLaying.nd rfl (.inl rfl))
      (pss_one (ps_set (i := 1) scLaying.nd rfl (.inl rfl) (pe_op op_cat (pv 1) (pe_lst (pa_cons pe_int (pa_cons pe_int pa_nil)))))))
      (pss_cons (ps_set (i := 3) scLaying.nd rfl (.inl rfl) (pe_call G_row hr (by rfl) g_row F_row.kp b_row .nil pass0 (pa_cons (pv 0) (pa_cons (pv 1) pa_nil))))
      (pss_cons (ps_set (i := 4) scLaying.nd rfl (.inl rfl) (pe_lst pa_nil))
      (pss_cons (ps_asg (pe_tup (pa_cons pe_int (pa_cons pe_int pa_nil))) (pg_tup rfl (pgs_cons (pg_name (i := 5) scLaying.nd rfl (.inl rfl)) (pgs_cons (pg_name (i := 6) scLaying.nd rfl (.inl rfl)) pgs_nil))))
      (pss_cons (ps_for (PassesOwn.never) rfl (pi_range1 (by rfl) B.range (pa_cons (pe_ix ix_list (pv 3) pe_int (fun _ _ => rfl)) pa_nil)) (pg_name (i := 2) scLaying.nd rfl (.inl rfl))
      (pss_cons (ps_set (i := 5) scLaying.nd rfl (.inl rfl) (pe_op op_add (pe_op op_add (pv 5) (pe_ix ix_list (pv 3) (pe_op op_add (pe_op op_mul pe_int (pv 2)) pe_int) (fun _ _ => rfl))) pe_int))
       (pss_cons (ps_set (i := 7) scLaying.nd rfl (.inl rfl) pe_non)
       (pss_cons (ps_if (pt_cmpR op_eq (pv 2) pe_int (nomark _))
       (pss_one (ps_set (i := 7) scLaying.nd rfl (.inl rfl) pe_int))
       (pss_one (ps_if (pt_cmpR op_lt (pe_ix ix_list (pv 3) (pe_op op_add (pe_op op_mul pe_int (pv 2)) pe_int) (fun _ _ => rfl)) pe_int (nomark _))
        (pss_cons (ps_set (i := 7) scLaying.nd rfl (.inl rfl) (pe_callB (call_min2 rfl) (by rfl) B.min (by decide +kernel) (pa_cons (pe_ix ix_list (pv 3) (pe_op op_add (pe_op op_mul pe_int (pv 2)) pe_int) (fun _ _ => rfl)) (pa_cons (pv 6) pa_nil))))
         (pss_one (ps_set (i := 6) scLaying.nd rfl (.inl rfl) (pe_op op_sub (pv 6) (pv 7)))))
        pss_nil)))
       (pss_one (ps_expr (pe_bm PySem.F.plainAttrs_list PySem.F.slot_list_append PySem.F.type_list_append mt_append (pv 4) (pa_cons (pe_tup (pa_cons (pv 5) (pa_cons (pv 7) pa_nil))) pa_nil))))))))
      (pss_one (ps_ret (pe_callTy call_tuple_of (by rfl) B.tuple (by decide +kernel) (pa_cons (pv 4) pa_nil)))))))))), ?_⟩
    refine ⟨by show 1 ≤ sizeLine; decide, fun l0 n0 => ?_⟩
    have s0 : Same H (upd H l0 (.lst [.int 9])) := same_new n0
    have e0 : (upd H l0 (.lst [.int 9])) l0 = some (.lst ((lims 9 4 8 0).map V.int)) := upd_same
    generalize upd H l0 (.lst [.int 9]) = H0 at s0 e0 ⊢
    refine ⟨8, rfl, by decide, by decide, ?_⟩
    refine for_range (lo := 0) (n := 8) (fun i σ H' => ∃ (p : Addr) (y2 : Option V), σ = [some (.int c), some (.ref p), y2, none, none, none, none, none] ∧ Same H H' ∧ H' p = some (.lst ((lims 9 4 8 i).map V.int)))
      ⟨l0, none, rfl, s0, e0⟩ ?_ ?_
    · rintro i σ H' hi ⟨p, y2, rfl, sm, hp⟩
      refine ⟨.ref p, rfl, by show 2 ≤ sizeLine; decide, fun l1 n1 => ⟨p, l1, _, _, rfl, rfl, by rw [upd_ne (ne_of_none hp n1)]; exact hp, upd_same, ?_, fun l2 n2 => ?_⟩⟩
      · rw [List.length_map, lims_len]; show _ + 2 ≤ _; rw [sizeLine_eq]; omega
      · refine ⟨l2, _, rfl, (same_new2 (same_new2 sm n1) n2), ?_⟩
        rw [upd_same, ← lims_succ, List.map_append]; rfl
    · rintro σ H' ⟨p, y2, rfl, sm, hp⟩
      refine ⟨.int c, rfl, .ref p, rfl, c, p, _, rfl, SqL.of hp, by rw [lims_len]; omega, ?_, fun H1 R rs s1 nR hR hrow => ?_⟩
      · intro l hl
        rcases lims_mem hl with rfl | rfl | rfl <;> omega
      · obtain ⟨g0, a0, b0, c0⟩ := row_at hrow (i := 0) (l := 9) rfl
        obtain ⟨k, rfl⟩ : ∃ k : Nat, g0 = (k : Int) := ⟨g0.toNat, by omega⟩
        have hk : k ≤ 8 := by omega
        have sA := sm.trans s1
        refine ⟨Nat.zero_le _, fun S nS0 => ?_⟩
        have sS : Same H1 (upd H1 S (.lst [])) := same_new nS0
        have eS : (upd H1 S (.lst [])) S = some (.lst []) := upd_same
        generalize upd H1 S (.lst []) = H2 at sS eS ⊢
        have nS1 : H S = none := by
          cases h : H S with
          | none => rfl
          | some o => have := sA _ _ h; rw [nS0] at this; cases this
        refine ⟨by show 2 ≤ sizeLine; decide, fun W nW => ⟨W, _, rfl, SqT.of upd_same, rfl, .int 0, _, rfl, .int 4, _, rfl, rfl, ?_⟩⟩
        have sS := sS.trans (same_new nW (o := .tup [.int 0, .int 4]))
        have eS := (same_new nW (o := .tup [.int 0, .int 4])) _ _ eS
        generalize upd H2 W (.tup [.int 0, .int 4]) = H2 at sS eS ⊢
        refine ⟨.ref R, rfl, R, _, 0, _, rfl, rfl, SqL.of (sS _ _ hR), atI_nat (j := 0) (i_at a0), k, rfl, by omega, by omega, ?_⟩
        rw [Int.toNat_natCast]
        have hR2 := sS _ _ hR
        refine for_range (lo := 0) (n := k) (fun i σ H' => ∃ (y2 y7 : Option V) (e l : Nat) (us : List V) (xs : List Stp), σ = [some (.int c), some (.ref p), y2, some (.ref R), some (.ref S), some (.int (e : Int)), some (.int (l : Int)), y7] ∧ Same H H' ∧ H' R = some (.lst (rs.map V.int)) ∧ H' S = some (.lst us) ∧ Steps H' us xs ∧ xs.length = i ∧ (∀ x ∈ xs, GoodS x) ∧ e ≤ 4 * i ∧ l ≤ 4)
          ⟨y2, none, 0, 4, [], [], rfl, sA.trans sS, hR2, eS, Steps.nil, rfl, fun x h => absurd h List.not_mem_nil, by omega, by omega⟩ ?_ ?_
        · rintro i σ H' hi ⟨y2, y7, e, l, us, xs, rfl, sm, hRi, hSi, hst, hxl, hgd, he, hl⟩
          have e0 : (0 : Int) + (i : Int) = (i : Int) := by omega
          rw [e0]
          have hul := hst.1
          obtain ⟨h1, h2⟩ := lims_at (f := 9) (a := 4) (b := 8) (n := 8) (k := i) (by omega)
          obtain ⟨r1, a1, b1, c1⟩ := row_at hrow h1
          obtain ⟨r2, a2, b2, c2⟩ := row_at hrow h2
          obtain ⟨m1, rfl⟩ : ∃ k : Nat, r1 = (k : Int) := ⟨r1.toNat, by omega⟩
          obtain ⟨m2, rfl⟩ : ∃ k : Nat, r2 = (k : Int) := ⟨r2.toNat, by omega⟩
          have at2 : H' R = some (.lst (rs.map V.int)) ∧ atI (rs.map V.int) (2 * (i : Int) + 2) = some (.int (m2 : Int)) := ⟨hRi, at_of (j := 2 * i + 2) (by omega) (i_at a2)⟩
          -- the end of a turn
          have fin : ∀ (o : Option Nat) (l' : Nat), (∀ f, o = some f → f ≤ 4) → l' ≤ 4 → ∀ T, H' T = none → ∃ (y2 y7 : Option V) (e2 l2 : Nat) (us2 : List V) (xs2 : List Stp), [some (.int c), some (.ref p), some (.int (i : Int)), some (.ref R), some (.ref S), some (.int ((e : Int) + (m1 : Int) + 1)), some (.int (l' : Int)), some (ov o)] = [some (.int c), some (.ref p), y2, some (.ref R), some (.ref S), some (.int (e2 : Int)), some (.int (l2 : Int)), y7] ∧ Same H (upd (upd H' T (.tup [.int ((e : Int) + (m1 : Int) + 1), ov o])) S (.lst (us ++ [.ref T]))) ∧ upd (upd H' T (.tup [.int ((e : Int) + (m1 : Int) + 1), ov o])) S (.lst (us ++ [.ref T])) R = some (.lst (rs.map V.int)) ∧ upd (upd H' T (.tup [.int ((e : Int) + (m1 : Int) + 1), ov o])) S (.lst (us ++ [.ref T])) S = some (.lst us2) ∧ Steps (upd (upd H' T (.tup [.int ((e : Int) + (m1 : Int) + 1), ov o])) S (.lst (us ++ [.ref T]))) us2 xs2 ∧ xs2.length = i + 1 ∧ (∀ x ∈ xs2, GoodS x) ∧ e2 ≤ 4 * (i + 1) ∧ l2 ≤ 4 := by
            intro o l' ho hl' T nT
            have nTS : T ≠ S := fun h => by subst h; rw [nT] at hSi; cases hSi
            have nRS : R ≠ S := fun h => by subst h; rw [nS0] at hR; cases hR
            refine ⟨_, _, e + m1 + 1, l', us ++ [.ref T], xs ++ [(e + m1 + 1, o)], by rw [show ((e + m1 + 1 : Nat) : Int) = (e : Int) + (m1 : Int) + 1 by omega], same_at (same_new2 sm nT) nS1, ?_, upd_same, ?_, by rw [List.length_append, hxl]; rfl, ?_, by omega, hl'⟩
            · rw [upd_ne nRS, upd_ne (ne_of_none hRi nT)]; exact hRi
            · refine Steps.snoc (hst.tups fun b ys h => ?_) ?_
              · rw [upd_ne (ne_of h hSi (by intro z; cases z)), upd_ne (ne_of_none h nT)]; exact h
              · rw [upd_ne nTS, upd_same]
                show some (HO.tup [.int ((e : Int) + (m1 : Int) + 1), ov o]) = some (.tup [.int ((e + m1 + 1 : Nat) : Int), ov o])
                rw [show ((e + m1 + 1 : Nat) : Int) = (e : Int) + (m1 : Int) + 1 by omega]
            · intro x hx
              rcases List.mem_append.mp hx with h | h
              · exact hgd x h
              · rw [List.mem_singleton.mp h]
                exact ⟨by show e + m1 + 1 < 1000; omega, fun f hf => Nat.lt_of_le_of_lt (ho f hf) (by decide)⟩
          have hsz : us.length < sizeLine := small1000 (by omega)
          refine ⟨.int (e : Int), rfl, .ref R, rfl, .int (i : Int), rfl, 2, (i : Int), rfl, rfl, .inl ⟨by decide, by decide⟩, _, 1, rfl, rfl, R, _, _, _, rfl, rfl, SqL.of hRi, at_of (j := 2 * i + 1) (by omega) (i_at a1), _, _, rfl, rfl, _, 1, rfl, rfl, ?_⟩
          refine ⟨.int (i : Int), rfl, rfl, _, rfl, ite2 (fun _ => ?_) (fun _ => ?_)⟩
          · -- the first step
            refine ⟨.ref S, rfl, .inl ⟨rfl, _, SqL.of hSi⟩, _, rfl, _, rfl, by show 2 ≤ sizeLine; decide, fun T nT => ⟨S, us, _, rfl, rfl, by rw [upd_ne (ne_of_none hSi nT)]; exact hSi, hsz, ?_⟩⟩
            exact fin (some 0) l (fun f hf => by cases hf; omega) hl T nT
          · refine ⟨.ref R, rfl, .int (i : Int), rfl, 2, (i : Int), rfl, rfl, .inl ⟨by decide, by decide⟩, _, 2, rfl, rfl, R, _, _, _, rfl, rfl, SqL.of hRi, at2.2, (m2 : Int), 5, rfl, rfl, _, rfl, ite2 (fun h5 => ?_) (fun _ => ?_)⟩
            · refine ⟨.ref R, rfl, .int (i : Int), rfl, 2, (i : Int), rfl, rfl, .inl ⟨by decide, by decide⟩, _, 2, rfl, rfl, R, _, _, _, rfl, rfl, SqL.of hRi, at2.2, .int (l : Int), rfl, (m2 : Int), (l : Int), rfl, ?_⟩
              have hmin : (if (l : Int) < (m2 : Int) then (l : Int) else (m2 : Int)) = ((min m2 l : Nat) : Int) := by
                by_cases h : (l : Int) < (m2 : Int)
                · rw [if_pos h]; omega
                · rw [if_neg h]; omega
              dsimp only
              rw [hmin]
              refine ⟨.int (l : Int), rfl, .int ((min m2 l : Nat) : Int), rfl, (l : Int), _, rfl, rfl, ?_⟩
              have hsub : (l : Int) - ((min m2 l : Nat) : Int) = ((l - min m2 l : Nat) : Int) := by omega
              dsimp only
              rw [hsub]
              refine ⟨.ref S, rfl, .inl ⟨rfl, _, SqL.of hSi⟩, _, rfl, _, rfl, by show 2 ≤ sizeLine; decide, fun T nT => ⟨S, us, _, rfl, rfl, by rw [upd_ne (ne_of_none hSi nT)]; exact hSi, hsz, ?_⟩⟩
              exact fin (some (min m2 l)) _ (fun f hf => by cases hf; omega) (by omega) T nT
            · refine ⟨.ref S, rfl, .inl ⟨rfl, _, SqL.of hSi⟩, _, rfl, _, rfl, by show 2 ≤ sizeLine; decide, fun T nT => ⟨S, us, _, rfl, rfl, by rw [upd_ne (ne_of_none hSi nT)]; exact hSi, hsz, ?_⟩⟩
              exact fin none l (fun f hf => nomatch hf) hl T nT
        · rintro σ H' ⟨y2, y7, e, l, us, xs, rfl, sm, hRi, hSi, hst, hxl, hgd, he, hl⟩
          refine ⟨.ref S, rfl, S, us, rfl, .inl ⟨SqL.of hSi, fun T nT => ?_⟩⟩
          exact q _ T us xs (same_new2 sm nT) upd_same (hst.same (same_new nT)) (by omega) hgd
end
end K74

set_option maxRecDepth 100000
set_option maxHeartbeats 4000000
namespace K74
open PySem PySem.Spec PyProof.Rows L2
theorem dep_due (z : Str) (h : dots (tl z) ≤ 11) : DepLt 3 (dueD z) := by
  unfold dueD
  cases h2 : rdW (tl z) with
  | none =>
    refine ⟨by show 3 ≤ 2000; decide, fun d hd => ?_⟩
    simp at hd
    rcases hd with rfl | rfl | rfl <;> trivial
  | some ns =>
    refine ⟨by show 2 ≤ 2000; decide, fun d hd => ?_⟩
    simp at hd
    rcases hd with rfl | rfl
    · trivial
    · refine ⟨?_, fun d hd => ?_⟩
      · rw [List.length_map]
        unfold rdW at h2
        by_cases hr : tl z = rootL
        · rw [if_pos hr] at h2; cases h2; decide
        · rw [if_neg hr] at h2
          have := congrArg List.length (allSome_is h2)
          rw [List.length_map, List.length_map, parts_len] at this
          omega
      · obtain ⟨n, _, rfl⟩ := List.mem_map.mp hd
        trivial
theorem dep_str (z : Str) : DepLt 3 (.str z) := trivial
theorem dep_strs {zs : List Str} (h : zs.length ≤ 8) : DepLt 3 (.list (zs.map PyData.str)) := ⟨by rw [List.length_map]; omega, fun d hd => by obtain ⟨n, _, rfl⟩ := List.mem_map.mp hd; trivial⟩
section
variable {P : Program} {w : World} {K : PySem.W.Frag} {mg : Str → Option Value} {base : Heap} {t1 t2 t3 : Tok}
def spLaw (K : PySem.W.Frag) : Sp := fun vs H Q _ => ∃ (a : Addr) (ns : List Int), vs = [.ref a] ∧ SqL K H a (ns.map V.int) ∧ ns.length ≤ 63 ∧ ∀ H', Q (.bl true) H'
theorem scLaw : FnScope ["_law_script", "_law_place_here", "_law_word", "_law_turn", "_law_small", "_law_once", "_law_twice", "_law_odd_here", "_law_laying_here", "_law_due_here", "_law_told"] ["_law_script"] (defScope sLaw) := ⟨rfl, rfl, rfl, by decide +kernel, rfl, by decide +kernel, by decide +kernel⟩
set_option maxHeartbeats 8000000 in
theorem ok_law {C CL CB CP fI f f_is_digit f_read_number f_write_place f_read_place f_write_laying f_cell f_row f_same f_index f_drawn f_written f_place f_due f_read f_spoilt f_odd f_laying f_lines : Addr} {fdI fd fd_is_digit fd_read_number fd_write_place fd_read_place fd_write_laying fd_cell fd_row fd_same fd_index fd_drawn fd_written fd_place fd_due fd_read fd_spoilt fd_odd fd_laying fd_lines : FuncData}
    (B : Blt mg) (Z : Cst mg t1 t2 t3) (N : NoP K mg C fI fdI) (R : Errs K mg C CL CB CP) (F : Fun K "law" "law" sLaw f fd)
    (F_is_digit : Fun K "_is_digit" "_is_digit" sDigit f_is_digit fd_is_digit) (b_is_digit : Binds K fd_is_digit ["char"] []) (g_is_digit : mg "_is_digit" = some (.ref f_is_digit))
    (F_read_number : Fun K "read_number" "read_number" sNum f_read_number fd_read_number) (b_read_number : Binds K fd_read_number ["word"] []) (g_read_number : mg "read_number" = some (.ref f_read_number))
    (F_write_place : Fun K "write_place" "write_place" sWPlace f_write_place fd_write_place) (b_write_place : Binds K fd_write_place ["place"] []) (g_write_place : mg "write_place" = some (.ref f_write_place))
    (F_read_place : Fun K "read_place" "read_place" sRPlace f_read_place fd_read_place) (b_read_place : Binds K fd_read_place ["word"] []) (g_read_place : mg "read_place" = some (.ref f_read_place))
    (F_write_laying : Fun K "write_laying" "write_laying" sWLay f_write_laying fd_write_laying) (b_write_laying : Binds K fd_write_laying ["laying"] []) (g_write_laying : mg "write_laying" = some (.ref f_write_laying))
    (F_cell : Fun K "_law_cell" "_law_cell" sCell f_cell fd_cell) (b_cell : Binds K fd_cell ["_law_script", "_law_k"] []) (g_cell : mg "_law_cell" = some (.ref f_cell))
    (F_row : Fun K "_law_row" "_law_row" sRow f_row fd_row) (b_row : Binds K fd_row ["_law_cell_here", "_law_limits"] []) (g_row : mg "_law_row" = some (.ref f_row))
    (F_same : Fun K "_law_same" "_law_same" sSame f_same fd_same) (b_same : Binds K fd_same ["_law_one", "_law_two"] []) (g_same : mg "_law_same" = some (.ref f_same))
    (F_index : Fun K "_law_index" "_law_index" sIndex f_index fd_index) (b_index : Binds K fd_index ["_law_way", "_law_worth"] []) (g_index : mg "_law_index" = some (.ref f_index))
    (F_drawn : Fun K "_law_drawn" "_law_drawn" sDrawn f_drawn fd_drawn) (b_drawn : Binds K fd_drawn ["_law_cell_here", "_law_many"] []) (g_drawn : mg "_law_drawn" = some (.ref f_drawn))
    (F_written : Fun K "_law_written" "_law_written" sWritten f_written fd_written) (b_written : Binds K fd_written ["_law_place_here"] []) (g_written : mg "_law_written" = some (.ref f_written))
    (F_place : Fun K "_law_place" "_law_place" sPlace f_place fd_place) (b_place : Binds K fd_place ["_law_word"] []) (g_place : mg "_law_place" = some (.ref f_place))
    (F_due : Fun K "_law_due" "_law_due" sDue f_due fd_due) (b_due : Binds K fd_due ["_law_word"] []) (g_due : mg "_law_due" = some (.ref f_due))
    (F_read : Fun K "_law_read" "_law_read" sRead f_read fd_read) (b_read : Binds K fd_read ["_law_word"] []) (g_read : mg "_law_read" = some (.ref f_read))
    (F_spoilt : Fun K "_law_spoilt" "_law_spoilt" sSpoilt f_spoilt fd_spoilt) (b_spoilt : Binds K fd_spoilt ["_law_word", "_law_way", "_law_at", "_law_pick"] []) (g_spoilt : mg "_law_spoilt" = some (.ref f_spoilt))
    (F_odd : Fun K "_law_odd" "_law_odd" sOdd f_odd fd_odd) (b_odd : Binds K fd_odd ["_law_pick"] []) (g_odd : mg "_law_odd" = some (.ref f_odd))
    (F_laying : Fun K "_law_laying" "_law_laying" sLaying f_laying fd_laying) (b_laying : Binds K fd_laying ["_law_cell_here"] []) (g_laying : mg "_law_laying" = some (.ref f_laying))
    (F_lines : Fun K "_law_lines" "_law_lines" sLines f_lines fd_lines) (b_lines : Binds K fd_lines ["_law_laying_here"] []) (g_lines : mg "_law_lines" = some (.ref f_lines)) :
    FnOk P w K mg base CX0 5 f fd ["_law_script"] (spLaw K) := by
  have G_cell : FnOk P w K mg base CX0 1 f_cell fd_cell ["_law_script", "_law_k"] (spCell K) := ok_cell B F_cell
  have G_row : FnOk P w K mg base CX0 1 f_row fd_row ["_law_cell_here", "_law_limits"] (spRow K) := ok_row B F_row
  have G_same : FnOk P w K mg base CX0 4 f_same fd_same ["_law_one", "_law_two"] (spSame 3) := ok_same B F_same b_same g_same 3
  have G_drawn : FnOk P w K mg base CX0 2 f_drawn fd_drawn ["_law_cell_here", "_law_many"] (spDrawn K) := ok_drawn B F_drawn F_row b_row g_row F_index b_index g_index
  have G_written : FnOk P w K mg base CX0 1 f_written fd_written ["_law_place_here"] spWr := ok_written B F_written
  have G_write_place : FnOk P w K mg base CX0 1 f_write_place fd_write_place ["place"] spWr := ok_wplace B Z F_write_place
  have G_read : FnOk P w K mg base CX0 4 f_read fd_read ["_law_word"] spDue := ok_read B Z N R F_read F_read_place b_read_place g_read_place F_read_number b_read_number g_read_number F_is_digit b_is_digit g_is_digit
  have G_due : FnOk P w K mg base CX0 2 f_due fd_due ["_law_word"] spDue := ok_due B F_due F_place b_place g_place
  have G_spoilt : FnOk P w K mg base CX0 1 f_spoilt fd_spoilt ["_law_word", "_law_way", "_law_at", "_law_pick"] spSpoilt := ok_spoilt B F_spoilt
  have G_odd : FnOk P w K mg base CX0 1 f_odd fd_odd ["_law_pick"] spOdd := ok_odd B F_odd
  have G_laying : FnOk P w K mg base CX0 2 f_laying fd_laying ["_law_cell_here"] (spLaying K) := ok_laying B F_laying F_row b_row g_row
  have G_lines : FnOk P w K mg base CX0 1 f_lines fd_lines ["_law_laying_here"] spLns := ok_lines B F_lines
  have G_write_laying : FnOk P w K mg base CX0 1 f_write_laying fd_write_laying ["laying"] spLns := ok_wlay B F_write_laying
  refine F.ok scLaw (fun vs H Q E h => ?_) (fun cdv A0 outer s H vs Q E hr h => ?_)
  · obtain ⟨a, ns, rfl, _⟩ := h; rfl
  · obtain ⟨a, ns, rfl, hS, hlen, q⟩ := h
    have hr1 : Room 1 _ := hr.mono (by decide)
    have hr2 : Room 2 _ := hr.mono (by decide)
    refine ⟨_, (pss_cons (ps_set (i := 1) scLaw.nd rfl (.inl rfl) (pe_call G_drawn hr2 (by rfl) g_drawn F_drawn.kp b_drawn .nil pass0 (pa_cons (pe_call G_cell hr1 (by rfl) g_cell F_cell.kp b_cell .nil pass0 (pa_cons (pv 0) (pa_cons pe_int pa_nil))) (pa_cons pe_int pa_nil))))
      (pss_cons (ps_set (i := 2) scLaw.nd rfl (.inl rfl) (pe_call G_written hr1 (by rfl) g_written F_written.kp b_written .nil pass0 (pa_cons (pv 1) pa_nil)))
      (pss_cons (ps_if (PW.pt (pw_or (pt_not (pt_val (pe_call G_same hr (by rfl) g_same F_same.kp b_same .nil pass0 (pa_cons (pe_call G_write_place hr1 (by rfl) g_write_place F_write_place.kp b_write_place .nil pass0 (pa_cons (pv 1) pa_nil)) (pa_cons (pv 2) pa_nil))))) (pw_or1 (pt_not (pt_val (pe_call G_same hr (by rfl) g_same F_same.kp b_same .nil pass0 (pa_cons (pe_call G_read hr (by rfl) g_read F_read.kp b_read .nil pass0 (pa_cons (pv 2) pa_nil)) (pa_cons (pe_tup (pa_cons pe_str (pa_cons (pv 1) pa_nil))) pa_nil))))))))
      (pss_one (ps_ret pe_bl))
      pss_nil)
      (pss_cons (ps_set (i := 3) scLaw.nd rfl (.inl rfl) (pe_call G_row hr1 (by rfl) g_row F_row.kp b_row .nil pass0 (pa_cons (pe_call G_cell hr1 (by rfl) g_cell F_cell.kp b_cell .nil pass0 (pa_cons (pv 0) (pa_cons pe_int pa_nil))) (pa_cons (pe_lst (pa_cons pe_int (pa_cons pe_int (pa_cons pe_int (pa_cons pe_int (pa_cons pe_int (pa_cons pe_int (pa_cons pe_int pa_nil)))))))) pa_nil))))
      (pss_cons (ps_set (i := 4) scLaw.nd rfl (.inl rfl) (pe_call G_written hr1 (by rfl) g_written F_written.kp b_written .nil pass0 (pa_cons (pe_call G_drawn hr2 (by rfl) g_drawn F_drawn.kp b_drawn .nil pass0 (pa_cons (pe_call G_cell hr1 (by rfl) g_cell F_cell.kp b_cell .nil pass0 (pa_cons (pv 0) (pa_cons pe_int pa_nil))) (pa_cons pe_int pa_nil))) pa_nil)))
      (pss_cons (ps_set (i := 5) scLaw.nd rfl (.inl rfl) (pe_call G_spoilt hr1 (by rfl) g_spoilt F_spoilt.kp b_spoilt .nil pass0 (pa_cons (pv 4) (pa_cons (pe_ix ix_list (pv 3) pe_int (fun _ _ => rfl)) (pa_cons (pe_ix ix_list (pv 3) pe_int (fun _ _ => rfl)) (pa_cons (pe_ix ix_list (pv 3) pe_int (fun _ _ => rfl)) pa_nil))))))
      (pss_cons (ps_set (i := 6) scLaw.nd rfl (.inl rfl) (pe_call G_spoilt hr1 (by rfl) g_spoilt F_spoilt.kp b_spoilt .nil pass0 (pa_cons (pv 5) (pa_cons (pe_ix ix_list (pv 3) pe_int (fun _ _ => rfl)) (pa_cons (pe_ix ix_list (pv 3) pe_int (fun _ _ => rfl)) (pa_cons (pe_ix ix_list (pv 3) pe_int (fun _ _ => rfl)) pa_nil))))))
      (pss_cons (ps_for (PassesOwn.never) rfl (pi_list (pe_lst (pa_cons (pv 4) (pa_cons (pv 5) (pa_cons (pv 6) (pa_cons (pe_call G_odd hr1 (by rfl) g_odd F_odd.kp b_odd .nil pass0 (pa_cons (pe_ix ix_list (pv 3) pe_int (fun _ _ => rfl)) pa_nil)) pa_nil)))))) (pg_name (i := 7) scLaw.nd rfl (.inl rfl))
      (pss_one (ps_if (PW.pt (pw_or (pt_not (pt_val (pe_call G_same hr (by rfl) g_same F_same.kp b_same .nil pass0 (pa_cons (pe_call G_read hr (by rfl) g_read F_read.kp b_read .nil pass0 (pa_cons (pv 7) pa_nil)) (pa_cons (pe_call G_due hr2 (by rfl) g_due F_due.kp b_due .nil pass0 (pa_cons (pv 7) pa_nil)) pa_nil))))) (pw_or1 (pt_not (pt_val (pe_call G_same hr (by rfl) g_same F_same.kp b_same .nil pass0 (pa_cons (pe_call G_read hr (by rfl) g_read F_read.kp b_read .nil pass0 (pa_cons (pv 2) pa_nil)) (pa_cons (pe_tup (pa_cons pe_str (pa_cons (pv 1) pa_nil))) pa_nil))))))))
       (pss_one (ps_ret pe_bl))
       pss_nil)))
      (pss_cons (ps_set (i := 8) scLaw.nd rfl (.inl rfl) (pe_call G_laying hr2 (by rfl) g_laying F_laying.kp b_laying .nil pass0 (pa_cons (pe_call G_cell hr1 (by rfl) g_cell F_cell.kp b_cell .nil pass0 (pa_cons (pv 0) (pa_cons pe_int pa_nil))) pa_nil)))
      (pss_cons (ps_set (i := 9) scLaw.nd rfl (.inl rfl) (pe_call G_lines hr1 (by rfl) g_lines F_lines.kp b_lines .nil pass0 (pa_cons (pv 8) pa_nil)))
      (pss_cons (ps_set (i := 10) scLaw.nd rfl (.inl rfl) (pe_call G_write_laying hr1 (by rfl) g_write_laying F_write_laying.kp b_write_laying .nil pass0 (pa_cons (pv 8) pa_nil)))
      (pss_cons (ps_if (pt_not (pt_val (pe_call G_same hr (by rfl) g_same F_same.kp b_same .nil pass0 (pa_cons (pv 10) (pa_cons (pv 9) pa_nil)))))
      (pss_one (ps_ret pe_bl))
      pss_nil)
      (pss_cons (ps_expr (pe_bm PySem.F.plainAttrs_list PySem.F.slot_list_append PySem.F.type_list_append mt_append (pv 10) (pa_cons pe_str pa_nil)))
      (pss_one (ps_ret (pe_call G_same hr (by rfl) g_same F_same.kp b_same .nil pass0 (pa_cons (pe_call G_write_laying hr1 (by rfl) g_write_laying F_write_laying.kp b_write_laying .nil pass0 (pa_cons (pv 8) pa_nil)) (pa_cons (pv 9) pa_nil)))))))))))))))))), ?_⟩
    have z2 : 2 ≤ sizeLine := by decide
    refine ⟨.ref a, rfl, a, ns, 0, rfl, hS, hlen, by decide, fun c0 => ⟨c0, 12, rfl, by decide, fun H1 pa ps s1 hpa hp12 hpn => ?_⟩⟩
    refine ⟨.ref pa, rfl, pa, ps, rfl, hpa, hp12, hpn, fun H2 wd s2 hwd => ?_⟩
    have hpa2 := s2 _ _ hpa
    have hdw : dots (tl wd) ≤ 11 := by rw [hwd]; exact Nat.le_trans (dots_wr ps) (by omega)
    have hlw : wd.length ≤ 1000 := by rw [← tl_len, hwd]; exact Nat.le_trans (wr_len hpn hp12) (by decide)
    have hrd : rdW (tl wd) = some ps := by rw [hwd]; exact rd_wr hpn
    refine ⟨.ref pa, rfl, pa, ps, rfl, hpa2, hp12, hpn, fun H3 z3 s3 hz3 => ?_⟩
    have ez : z3 = wd := str_eq (by rw [hz3, hwd])
    subst ez
    refine ⟨.str z3, rfl, _, _, .str z3, rfl, .str _, .str _, dep_str _, true, rfl, iteF ?_⟩
    have sB : Same H H3 := s1.trans (s2.trans s3)
    refine ⟨.str z3, rfl, z3, rfl, hlw, hdw, fun H4 x s4 hx => ?_⟩
    have hpa4 := s4 _ _ (s3 _ _ hpa2)
    refine ⟨.ref pa, rfl, z2, fun t nt => ⟨_, _, dueD z3, rfl, hx.mono (same_new nt), ?_, dep_due _ hdw, true, rfl, iteF ?_⟩⟩
    · rw [due_some hrd]; exact Is.pair upd_same (.str _) (Is.ints (same_new nt _ _ hpa4))
    have sC : Same H (upd H4 t (.tup [.str (Str.ofString "read"), .ref pa])) := same_new2 (sB.trans s4) nt
    have hpa5 : (upd H4 t (.tup [.str (Str.ofString "read"), .ref pa])) pa = some (.tup (ps.map nv)) := same_new nt _ _ hpa4
    generalize upd H4 t (.tup [.str (Str.ofString "read"), .ref pa]) = H5 at sC hpa5 ⊢
    -- turn
    refine ⟨.ref a, rfl, a, ns, 2, rfl, sC.seq hS, hlen, by decide, fun c2 => ⟨by show 7 ≤ sizeLine; decide, fun l0 n0 => ⟨c2, l0, [3, 90, 12, 3, 90, 12, 30], rfl, SqL.of upd_same, by decide, by decide, fun H6 Tn rs s6 nT hT hrow => ?_⟩⟩⟩
    have s56 := (same_new n0 (o := .lst [.int 3, .int 90, .int 12, .int 3, .int 90, .int 12, .int 30])).trans s6
    have sD := sC.trans s56
    have hpa6 := s56 _ _ hpa5
    obtain ⟨g0, a0, b0, d0⟩ := row_at hrow (i := 0) (l := 3) rfl
    obtain ⟨g1, a1, b1, d1⟩ := row_at hrow (i := 1) (l := 90) rfl
    obtain ⟨g2, a2, b2, d2⟩ := row_at hrow (i := 2) (l := 12) rfl
    obtain ⟨g3, a3, b3, d3⟩ := row_at hrow (i := 3) (l := 3) rfl
    obtain ⟨g4, a4, b4, d4⟩ := row_at hrow (i := 4) (l := 90) rfl
    obtain ⟨g5, a5, b5, d5⟩ := row_at hrow (i := 5) (l := 12) rfl
    obtain ⟨g6, a6, b6, d6⟩ := row_at hrow (i := 6) (l := 30) rfl
    -- small
    refine ⟨.ref a, rfl, a, ns, 1, rfl, sD.seq hS, hlen, by decide, fun c1 => ⟨c1, 6, rfl, by decide, fun H7 pb qs s7 hpb hq6 hqn => ?_⟩⟩
    refine ⟨pb, qs, rfl, hpb, by omega, hqn, fun H8 w0 s8 hw0 => ?_⟩
    have s68 := s7.trans s8
    have hdw0 : dots (tl w0) ≤ 5 := by rw [hw0]; exact Nat.le_trans (dots_wr qs) (by omega)
    have hlw0 : w0.length ≤ 156 := by rw [← tl_len, hw0]; exact wr_len hqn (by omega)
    have hT8 := s68 _ _ hT
    refine ⟨.str w0, rfl, .ref Tn, rfl, Tn, _, 0, _, rfl, rfl, SqL.of hT8, atI_nat (j := 0) (i_at a0), .ref Tn, rfl, Tn, _, 1, _, rfl, rfl, SqL.of hT8, atI_nat (j := 1) (i_at a1), .ref Tn, rfl, Tn, _, 2, _, rfl, rfl, SqL.of hT8, atI_nat (j := 2) (i_at a2), w0, g0, g1, g2, rfl, by omega, b2, d2, fun w1 hlw1 hdw1 H9 s9 => ?_⟩
    have hT9 := s9 _ _ hT8
    refine ⟨.str w1, rfl, .ref Tn, rfl, Tn, _, 3, _, rfl, rfl, SqL.of hT9, atI_nat (j := 3) (i_at a3), .ref Tn, rfl, Tn, _, 4, _, rfl, rfl, SqL.of hT9, atI_nat (j := 4) (i_at a4), .ref Tn, rfl, Tn, _, 5, _, rfl, rfl, SqL.of hT9, atI_nat (j := 5) (i_at a5), w1, g3, g4, g5, rfl, by omega, b5, d5, fun w2 hlw2 hdw2 H10 s10 => ?_⟩
    have hT10 := s10 _ _ hT9
    refine ⟨.str w0, rfl, .str w1, rfl, .str w2, rfl, .ref Tn, rfl, Tn, _, 6, _, rfl, rfl, SqL.of hT10, atI_nat (j := 6) (i_at a6), g6, rfl, b6, d6, fun w3 hlw3 hdw3 H11 s11 => ⟨by show 4 ≤ sizeLine; decide, fun L nL => ⟨L, rfl, ⟨_, SqL.of upd_same⟩, ?_⟩⟩⟩
    have s8L : Same H8 (upd H11 L (.lst [.str w0, .str w1, .str w2, .str w3])) := same_new2 (s9.trans (s10.trans s11)) nL
    have eL : (upd H11 L (.lst [.str w0, .str w1, .str w2, .str w3])) L = some (.lst [.str w0, .str w1, .str w2, .str w3]) := upd_same
    generalize upd H11 L (.lst [.str w0, .str w1, .str w2, .str w3]) = H12 at s8L eL ⊢
    have hpa12 := s8L _ _ (s68 _ _ hpa6)
    have sE : Same H H12 := sD.trans (s68.trans s8L)
    refine for_list (K := K) (a := L) (xs := [.str w0, .str w1, .str w2, .str w3]) (fun i σ H' => ∃ (y7 : Option V), σ = [some (.ref a), some (.ref pa), some (.str z3), some (.ref Tn), some (.str w0), some (.str w1), some (.str w2), y7, none, none, none] ∧ Same H12 H')
      ⟨none, rfl, Same.refl _⟩ (fun i σ H' _ ⟨_, _, s⟩ => SqL.of (s _ _ eL)) ?_ ?_
    · rintro i v σ H' hi ⟨y7, rfl, sm⟩
      obtain ⟨x, rfl, hx1, hx2⟩ : ∃ x : Str, v = .str x ∧ x.length ≤ 1000 ∧ dots (tl x) ≤ 11 := by
        match i, hi with
        | 0, hi => cases hi; exact ⟨w0, rfl, by omega, by omega⟩
        | 1, hi => cases hi; exact ⟨w1, rfl, by omega, by omega⟩
        | 2, hi => cases hi; exact ⟨w2, rfl, by omega, by omega⟩
        | 3, hi => cases hi; exact ⟨w3, rfl, by omega, by omega⟩
        | i + 4, hi => simp at hi
      refine ⟨.str x, rfl, x, rfl, hx1, hx2, fun Ha ya sa hya => ⟨.str x, rfl, x, rfl, hx1, hx2, fun Hb yb sb hyb => ⟨_, _, dueD x, rfl, hya.mono sb, hyb, dep_due _ hx2, true, rfl, iteF ?_⟩⟩⟩
      refine ⟨.str z3, rfl, z3, rfl, hlw, hdw, fun Hc yc sc hyc => ?_⟩
      have hpac := sc _ _ (sb _ _ (sa _ _ (sm _ _ hpa12)))
      refine ⟨.ref pa, rfl, z2, fun t nt => ⟨_, _, dueD z3, rfl, hyc.mono (same_new nt), ?_, dep_due _ hdw, true, rfl, iteF ⟨_, rfl, same_new2 (sm.trans (sa.trans (sb.trans sc))) nt⟩⟩⟩
      rw [due_some hrd]; exact Is.pair upd_same (.str _) (Is.ints (same_new nt _ _ hpac))
    · rintro σ H' ⟨y7, rfl, sm⟩
      refine ⟨.ref a, rfl, a, ns, 3, rfl, (sE.trans sm).seq hS, hlen, by decide, fun c3 => ⟨c3, rfl, fun H13 la us xs s13 hla hst hx8 hgd => ?_⟩⟩
      have hll : (xs.map line).length ≤ 8 := by rw [List.length_map]; exact hx8
      refine ⟨.ref la, rfl, la, us, xs, rfl, hla, hst, hx8, hgd, fun H14 D s14 nD hD => ?_⟩
      have hla14 := s14 _ _ hla
      refine ⟨.ref la, rfl, la, us, xs, rfl, hla14, hst.same s14, hx8, hgd, fun H15 D2 s15 nD2 hD2 => ?_⟩
      have hDD : D2 ≠ D := fun h => by subst h; rw [nD2] at hD; cases hD
      have hD15 := s15 _ _ hD
      refine ⟨.ref D2, rfl, .ref D, rfl, _, _, _, rfl, Is.strs hD2, Is.strs hD15, dep_strs hll, true, rfl, iteF ?_⟩
      refine ⟨.ref D2, rfl, .inl ⟨rfl, _, SqL.of hD2⟩, D2, _, _, rfl, rfl, hD2, small1000 (by rw [List.length_map]; omega), ?_⟩
      have hla15 := s15 _ _ hla14
      have hla16 : (upd H15 D2 (.lst ((xs.map line).map V.str ++ [.str (Str.ofString "0")]))) la = some (.tup us) := by
        rw [upd_ne (ne_of hla15 hD2 (by intro z; cases z))]; exact hla15
      have hst16 : Steps (upd H15 D2 (.lst ((xs.map line).map V.str ++ [.str (Str.ofString "0")]))) us xs := (hst.same (s14.trans s15)).tups fun b ys h => by
        rw [upd_ne (ne_of h hD2 (by intro z; cases z))]; exact h
      have hD16 : (upd H15 D2 (.lst ((xs.map line).map V.str ++ [.str (Str.ofString "0")]))) D = some (.lst ((xs.map line).map V.str)) := by
        rw [upd_ne (Ne.symm hDD)]; exact hD15
      generalize upd H15 D2 (.lst ((xs.map line).map V.str ++ [.str (Str.ofString "0")])) = H16 at hla16 hst16 hD16 ⊢
      refine ⟨.ref la, rfl, la, us, xs, rfl, hla16, hst16, hx8, hgd, fun H17 D3 s17 nD3 hD3 => ?_⟩
      refine ⟨.ref D, rfl, _, _, _, rfl, Is.strs hD3, Is.strs (s17 _ _ hD16), dep_strs hll, ?_⟩
      exact q H17
end
end K74

set_option maxRecDepth 100000
set_option maxHeartbeats 4000000
namespace K74
open PySem PySem.Spec PyProof.Rows L2
theorem all_mk {l : PySem.W.OpenLaw} {w : World} {K : PySem.W.Frag} {h : Heap} {mg : Str → Option Value} {fa C CL CB CP f1 f2 f3 f4 f5 f6 f7 f8 f9 f10 f11 f12 f13 f14 f15 f16 f17 f18 f19 f20 : Addr} (X : K.In h) (G : h.Ns mainGlobals mg) (hfa : mg "law" = some (.ref fa))
    {tk0 tk1 tk2 : Tok}
    {od1 an1 od2 an2 od3 an3 od4 an4 od5 an5 od6 an6 od7 an7 od8 an8 od9 an9 od10 an10 od11 an11 od12 an12 od13 an13 od14 an14 od15 an15 od16 an16 od17 an17 od18 an18 od19 an19 od20 an20 : Option Addr} {sl1 sl2 sl3 sl4 sl5 sl6 sl7 sl8 sl9 sl10 sl11 sl12 sl13 sl14 sl15 sl16 sl17 sl18 sl19 sl20 : Array (Option Value)}
    {oc1 kV1 dc1 pm1 cd1 ct1 oc2 kV2 dc2 pm2 cd2 ct2 oc3 kV3 dc3 pm3 cd3 ct3 oc4 kV4 dc4 pm4 cd4 ct4 oc5 kV5 dc5 pm5 cd5 ct5 oc6 kV6 dc6 pm6 cd6 ct6 oc7 kV7 dc7 pm7 cd7 ct7 oc8 kV8 dc8 pm8 cd8 ct8 oc9 kV9 dc9 pm9 cd9 ct9 oc10 kV10 dc10 pm10 cd10 ct10 oc11 kV11 dc11 pm11 cd11 ct11 oc12 kV12 dc12 pm12 cd12 ct12 oc13 kV13 dc13 pm13 cd13 ct13 oc14 kV14 dc14 pm14 cd14 ct14 oc15 kV15 dc15 pm15 cd15 ct15 oc16 kV16 dc16 pm16 cd16 ct16 oc17 kV17 dc17 pm17 cd17 ct17 oc18 kV18 dc18 pm18 cd18 ct18 oc19 kV19 dc19 pm19 cd19 ct19 oc20 kV20 dc20 pm20 cd20 ct20 : Value}
    {nm_C q_C : Str} {N_C : Addr} {bs_C bm_C : List Value} {sn_C : List Str} {sub_C : List Value} {ab_C : Bool} {col_C : Option Bool} {dd_C : Option Addr} {m0_C m1_C m2_C m3_C m5_C : Option Value}
    (c_LONGEST_NUMBER : PySem.W.nsIn K mainGlobals "LONGEST_NUMBER" = some (some (.int 12 tk0)))
    (c_ROOT : PySem.W.nsIn K mainGlobals "ROOT" = some (some (.str (Str.ofString "root") tk1)))
    (c_MOST_INDEXES : PySem.W.nsIn K mainGlobals "MOST_INDEXES" = some (some (.int 12 tk2)))
    (aCL : PySem.W.nsIn K mainGlobals "LaidError" = some (some (.ref CL)))
    (aCB : PySem.W.nsIn K mainGlobals "BadCommand" = some (some (.ref CB)))
    (aCP : PySem.W.nsIn K mainGlobals "BadPattern" = some (some (.ref CP)))
    (aC : PySem.W.nsIn K mainGlobals "BadValue" = some (some (.ref C)))
    (x_C : K.lookup C = some (excClassObj nm_C q_C C N_C bs_C bm_C true sn_C sub_C ab_C col_C dd_C m0_C m1_C m2_C m3_C m5_C "ValueError.__new__"))
    (xb_C : PySem.HandSPX.refsVE bm_C = true)
    (sa_C : PySem.W.findIn K (.ref C) "__setattr__" = some (some (.builtin "object.__setattr__")))
    (xe_C : PySem.W.subIn K (.ref C) (.type "BaseException") = some true)
    (xt_C : PySem.W.typeIn K (.ref C) = some (.type "type"))
    (xk_C : PySem.W.keepIn K (.ref C) = true)
    (f_C_text : PySem.W.findIn K (.ref C) "text" = some none)
    (hg_C : PySem.W.findIn K (.ref C) "__getattribute__" = some (some (.builtin "BaseException.__getattribute__")))
    (hk_C : PySem.W.findIn K (.ref C) "__getattr__" = some none)
    (hd_C : PySem.W.hasDictIn K C = true)
    (ha_C : PySem.W.findIn K (.ref C) "__class__" = some (some (.builtin "object.__class__")))
    (hn_C : PySem.W.specialIn K (.builtin "object.__class__") "__get__" = some (some (.builtin "getset_descriptor.__get__")))
    (ht_C : PySem.W.takesIn K (.builtin "object.__class__") = some true)
    (hm_C : PySem.W.mroIn K C (.type "object") = some true)
    (ls_C : PySem.W.subIn K (.ref C) (.ref C) = some true)
    (q1_C : PySem.W.kitOne K (.ref C) (.ref CL) = some true)
    (q2_C : PySem.W.kitOne K (.ref C) (.type "ValueError") = some true)
    (q3_C : PySem.W.kitOne K (.ref C) (.ref CB) = some false)
    (q4_C : PySem.W.kitOne K (.ref C) (.ref CP) = some false)
    (a1 : PySem.W.nsIn K mainGlobals "_is_digit" = some (some (.ref f1)))
    (l1 : K.lookup f1 = some ⟨oc1, od1, .func (PySem.W.fnOf "_is_digit" "_is_digit" (defArgs sDigit) (defBody sDigit) (defScope sDigit) .none kV1 dc1 pm1 an1 cd1 ct1), sl1⟩)
    (c1 : PySem.W.codeIn K cd1 "_is_digit" = true)
    (k1 : PySem.W.keepIn K (.ref f1) = true)
    (a2 : PySem.W.nsIn K mainGlobals "read_number" = some (some (.ref f2)))
    (l2 : K.lookup f2 = some ⟨oc2, od2, .func (PySem.W.fnOf "read_number" "read_number" (defArgs sNum) (defBody sNum) (defScope sNum) .none kV2 dc2 pm2 an2 cd2 ct2), sl2⟩)
    (c2 : PySem.W.codeIn K cd2 "read_number" = true)
    (k2 : PySem.W.keepIn K (.ref f2) = true)
    (a3 : PySem.W.nsIn K mainGlobals "write_place" = some (some (.ref f3)))
    (l3 : K.lookup f3 = some ⟨oc3, od3, .func (PySem.W.fnOf "write_place" "write_place" (defArgs sWPlace) (defBody sWPlace) (defScope sWPlace) .none kV3 dc3 pm3 an3 cd3 ct3), sl3⟩)
    (c3 : PySem.W.codeIn K cd3 "write_place" = true)
    (k3 : PySem.W.keepIn K (.ref f3) = true)
    (a4 : PySem.W.nsIn K mainGlobals "read_place" = some (some (.ref f4)))
    (l4 : K.lookup f4 = some ⟨oc4, od4, .func (PySem.W.fnOf "read_place" "read_place" (defArgs sRPlace) (defBody sRPlace) (defScope sRPlace) .none kV4 dc4 pm4 an4 cd4 ct4), sl4⟩)
    (c4 : PySem.W.codeIn K cd4 "read_place" = true)
    (k4 : PySem.W.keepIn K (.ref f4) = true)
    (a5 : PySem.W.nsIn K mainGlobals "write_laying" = some (some (.ref f5)))
    (l5 : K.lookup f5 = some ⟨oc5, od5, .func (PySem.W.fnOf "write_laying" "write_laying" (defArgs sWLay) (defBody sWLay) (defScope sWLay) .none kV5 dc5 pm5 an5 cd5 ct5), sl5⟩)
    (c5 : PySem.W.codeIn K cd5 "write_laying" = true)
    (k5 : PySem.W.keepIn K (.ref f5) = true)
    (a6 : PySem.W.nsIn K mainGlobals "_law_cell" = some (some (.ref f6)))
    (l6 : K.lookup f6 = some ⟨oc6, od6, .func (PySem.W.fnOf "_law_cell" "_law_cell" (defArgs sCell) (defBody sCell) (defScope sCell) .none kV6 dc6 pm6 an6 cd6 ct6), sl6⟩)
    (c6 : PySem.W.codeIn K cd6 "_law_cell" = true)
    (k6 : PySem.W.keepIn K (.ref f6) = true)
    (a7 : PySem.W.nsIn K mainGlobals "_law_row" = some (some (.ref f7)))
    (l7 : K.lookup f7 = some ⟨oc7, od7, .func (PySem.W.fnOf "_law_row" "_law_row" (defArgs sRow) (defBody sRow) (defScope sRow) .none kV7 dc7 pm7 an7 cd7 ct7), sl7⟩)
    (c7 : PySem.W.codeIn K cd7 "_law_row" = true)
    (k7 : PySem.W.keepIn K (.ref f7) = true)
    (a8 : PySem.W.nsIn K mainGlobals "_law_same" = some (some (.ref f8)))
    (l8 : K.lookup f8 = some ⟨oc8, od8, .func (PySem.W.fnOf "_law_same" "_law_same" (defArgs sSame) (defBody sSame) (defScope sSame) .none kV8 dc8 pm8 an8 cd8 ct8), sl8⟩)
    (c8 : PySem.W.codeIn K cd8 "_law_same" = true)
    (k8 : PySem.W.keepIn K (.ref f8) = true)
    (a9 : PySem.W.nsIn K mainGlobals "_law_index" = some (some (.ref f9)))
    (l9 : K.lookup f9 = some ⟨oc9, od9, .func (PySem.W.fnOf "_law_index" "_law_index" (defArgs sIndex) (defBody sIndex) (defScope sIndex) .none kV9 dc9 pm9 an9 cd9 ct9), sl9⟩)
    (c9 : PySem.W.codeIn K cd9 "_law_index" = true)
    (k9 : PySem.W.keepIn K (.ref f9) = true)
    (a10 : PySem.W.nsIn K mainGlobals "_law_drawn" = some (some (.ref f10)))
    (l10 : K.lookup f10 = some ⟨oc10, od10, .func (PySem.W.fnOf "_law_drawn" "_law_drawn" (defArgs sDrawn) (defBody sDrawn) (defScope sDrawn) .none kV10 dc10 pm10 an10 cd10 ct10), sl10⟩)
    (c10 : PySem.W.codeIn K cd10 "_law_drawn" = true)
    (k10 : PySem.W.keepIn K (.ref f10) = true)
    (a11 : PySem.W.nsIn K mainGlobals "_law_written" = some (some (.ref f11)))
    (l11 : K.lookup f11 = some ⟨oc11, od11, .func (PySem.W.fnOf "_law_written" "_law_written" (defArgs sWritten) (defBody sWritten) (defScope sWritten) .none kV11 dc11 pm11 an11 cd11 ct11), sl11⟩)
    (c11 : PySem.W.codeIn K cd11 "_law_written" = true)
    (k11 : PySem.W.keepIn K (.ref f11) = true)
    (a12 : PySem.W.nsIn K mainGlobals "_law_place" = some (some (.ref f12)))
    (l12 : K.lookup f12 = some ⟨oc12, od12, .func (PySem.W.fnOf "_law_place" "_law_place" (defArgs sPlace) (defBody sPlace) (defScope sPlace) .none kV12 dc12 pm12 an12 cd12 ct12), sl12⟩)
    (c12 : PySem.W.codeIn K cd12 "_law_place" = true)
    (k12 : PySem.W.keepIn K (.ref f12) = true)
    (a13 : PySem.W.nsIn K mainGlobals "_law_due" = some (some (.ref f13)))
    (l13 : K.lookup f13 = some ⟨oc13, od13, .func (PySem.W.fnOf "_law_due" "_law_due" (defArgs sDue) (defBody sDue) (defScope sDue) .none kV13 dc13 pm13 an13 cd13 ct13), sl13⟩)
    (c13 : PySem.W.codeIn K cd13 "_law_due" = true)
    (k13 : PySem.W.keepIn K (.ref f13) = true)
    (a14 : PySem.W.nsIn K mainGlobals "_law_read" = some (some (.ref f14)))
    (l14 : K.lookup f14 = some ⟨oc14, od14, .func (PySem.W.fnOf "_law_read" "_law_read" (defArgs sRead) (defBody sRead) (defScope sRead) .none kV14 dc14 pm14 an14 cd14 ct14), sl14⟩)
    (c14 : PySem.W.codeIn K cd14 "_law_read" = true)
    (k14 : PySem.W.keepIn K (.ref f14) = true)
    (a15 : PySem.W.nsIn K mainGlobals "_law_spoilt" = some (some (.ref f15)))
    (l15 : K.lookup f15 = some ⟨oc15, od15, .func (PySem.W.fnOf "_law_spoilt" "_law_spoilt" (defArgs sSpoilt) (defBody sSpoilt) (defScope sSpoilt) .none kV15 dc15 pm15 an15 cd15 ct15), sl15⟩)
    (c15 : PySem.W.codeIn K cd15 "_law_spoilt" = true)
    (k15 : PySem.W.keepIn K (.ref f15) = true)
    (a16 : PySem.W.nsIn K mainGlobals "_law_odd" = some (some (.ref f16)))
    (l16 : K.lookup f16 = some ⟨oc16, od16, .func (PySem.W.fnOf "_law_odd" "_law_odd" (defArgs sOdd) (defBody sOdd) (defScope sOdd) .none kV16 dc16 pm16 an16 cd16 ct16), sl16⟩)
    (c16 : PySem.W.codeIn K cd16 "_law_odd" = true)
    (k16 : PySem.W.keepIn K (.ref f16) = true)
    (a17 : PySem.W.nsIn K mainGlobals "_law_laying" = some (some (.ref f17)))
    (l17 : K.lookup f17 = some ⟨oc17, od17, .func (PySem.W.fnOf "_law_laying" "_law_laying" (defArgs sLaying) (defBody sLaying) (defScope sLaying) .none kV17 dc17 pm17 an17 cd17 ct17), sl17⟩)
    (c17 : PySem.W.codeIn K cd17 "_law_laying" = true)
    (k17 : PySem.W.keepIn K (.ref f17) = true)
    (a18 : PySem.W.nsIn K mainGlobals "_law_lines" = some (some (.ref f18)))
    (l18 : K.lookup f18 = some ⟨oc18, od18, .func (PySem.W.fnOf "_law_lines" "_law_lines" (defArgs sLines) (defBody sLines) (defScope sLines) .none kV18 dc18 pm18 an18 cd18 ct18), sl18⟩)
    (c18 : PySem.W.codeIn K cd18 "_law_lines" = true)
    (k18 : PySem.W.keepIn K (.ref f18) = true)
    (a19 : PySem.W.nsIn K mainGlobals "law" = some (some (.ref f19)))
    (l19 : K.lookup f19 = some ⟨oc19, od19, .func (PySem.W.fnOf "law" "law" (defArgs sLaw) (defBody sLaw) (defScope sLaw) .none kV19 dc19 pm19 an19 cd19 ct19), sl19⟩)
    (c19 : PySem.W.codeIn K cd19 "law" = true)
    (k19 : PySem.W.keepIn K (.ref f19) = true)
    (a20 : PySem.W.findIn K (.ref C) "__init__" = some (some (.ref f20)))
    (l20 : K.lookup f20 = some ⟨oc20, od20, .func (PySem.W.fnOf "__init__" "BadValue.__init__" (defArgs sInit) (defBody sInit) (defScope sInit) .none kV20 dc20 pm20 an20 cd20 ct20), sl20⟩)
    (c20 : PySem.W.codeIn K cd20 "BadValue.__init__" = true)
    (k20 : PySem.W.keepIn K (.ref f20) = true)
    (t20 : PySem.W.typeIn K (.ref f20) = some (.type "function"))
    (z0 : PySem.W.nsIn K mainGlobals "len" = some none)
    (z1 : PySem.W.nsIn K mainGlobals "int" = some none)
    (z2 : PySem.W.nsIn K mainGlobals "str" = some none)
    (z3 : PySem.W.nsIn K mainGlobals "bool" = some none)
    (z4 : PySem.W.nsIn K mainGlobals "tuple" = some none)
    (z5 : PySem.W.nsIn K mainGlobals "list" = some none)
    (z6 : PySem.W.nsIn K mainGlobals "range" = some none)
    (z7 : PySem.W.nsIn K mainGlobals "isinstance" = some none)
    (z8 : PySem.W.nsIn K mainGlobals "all" = some none)
    (z9 : PySem.W.nsIn K mainGlobals "min" = some none)
    (z10 : PySem.W.nsIn K mainGlobals "ValueError" = some none) :
    ∃ fd : FuncData, (∀ (s : Shared) (v : Value), BindsTo s fd ⟨[v], []⟩ [("_law_script", v)]) ∧ ∀ base : Heap, K.In base → base.Ns mainGlobals mg → FnOk l.prog w K mg base CX0 5 fa fd ["_law_script"] (spLaw K) := by
  have e := hfa.symm.trans (PySem.W.mg_of X G a19); cases e
  have B : Blt mg := ⟨PySem.W.mg_none_of X G z0, PySem.W.mg_none_of X G z1, PySem.W.mg_none_of X G z2, PySem.W.mg_none_of X G z3, PySem.W.mg_none_of X G z4, PySem.W.mg_none_of X G z5, PySem.W.mg_none_of X G z6, PySem.W.mg_none_of X G z7, PySem.W.mg_none_of X G z8, PySem.W.mg_none_of X G z9, PySem.W.mg_none_of X G z10⟩
  have Z : Cst mg tk0 tk1 tk2 := ⟨PySem.W.mg_of X G c_LONGEST_NUMBER, PySem.W.mg_of X G c_ROOT, PySem.W.mg_of X G c_MOST_INDEXES⟩
  have F1 := fun_mk (st := sDigit) l1 c1 k1
  have F2 := fun_mk (st := sNum) l2 c2 k2
  have F3 := fun_mk (st := sWPlace) l3 c3 k3
  have F4 := fun_mk (st := sRPlace) l4 c4 k4
  have F5 := fun_mk (st := sWLay) l5 c5 k5
  have F6 := fun_mk (st := sCell) l6 c6 k6
  have F7 := fun_mk (st := sRow) l7 c7 k7
  have F8 := fun_mk (st := sSame) l8 c8 k8
  have F9 := fun_mk (st := sIndex) l9 c9 k9
  have F10 := fun_mk (st := sDrawn) l10 c10 k10
  have F11 := fun_mk (st := sWritten) l11 c11 k11
  have F12 := fun_mk (st := sPlace) l12 c12 k12
  have F13 := fun_mk (st := sDue) l13 c13 k13
  have F14 := fun_mk (st := sRead) l14 c14 k14
  have F15 := fun_mk (st := sSpoilt) l15 c15 k15
  have F16 := fun_mk (st := sOdd) l16 c16 k16
  have F17 := fun_mk (st := sLaying) l17 c17 k17
  have F18 := fun_mk (st := sLines) l18 c18 k18
  have F19 := fun_mk (st := sLaw) l19 c19 k19
  have F20 := fun_mk (st := sInit) l20 c20 k20
  have b1 := F1.binds (ps := ["char"]) fun _ _ _ _ _ _ us hl => match us, hl with | [_], _ => rfl
  have b2 := F2.binds (ps := ["word"]) fun _ _ _ _ _ _ us hl => match us, hl with | [_], _ => rfl
  have b3 := F3.binds (ps := ["place"]) fun _ _ _ _ _ _ us hl => match us, hl with | [_], _ => rfl
  have b4 := F4.binds (ps := ["word"]) fun _ _ _ _ _ _ us hl => match us, hl with | [_], _ => rfl
  have b5 := F5.binds (ps := ["laying"]) fun _ _ _ _ _ _ us hl => match us, hl with | [_], _ => rfl
  have b6 := F6.binds (ps := ["_law_script", "_law_k"]) fun _ _ _ _ _ _ us hl => match us, hl with | [_, _], _ => rfl
  have b7 := F7.binds (ps := ["_law_cell_here", "_law_limits"]) fun _ _ _ _ _ _ us hl => match us, hl with | [_, _], _ => rfl
  have b8 := F8.binds (ps := ["_law_one", "_law_two"]) fun _ _ _ _ _ _ us hl => match us, hl with | [_, _], _ => rfl
  have b9 := F9.binds (ps := ["_law_way", "_law_worth"]) fun _ _ _ _ _ _ us hl => match us, hl with | [_, _], _ => rfl
  have b10 := F10.binds (ps := ["_law_cell_here", "_law_many"]) fun _ _ _ _ _ _ us hl => match us, hl with | [_, _], _ => rfl
  have b11 := F11.binds (ps := ["_law_place_here"]) fun _ _ _ _ _ _ us hl => match us, hl with | [_], _ => rfl
  have b12 := F12.binds (ps := ["_law_word"]) fun _ _ _ _ _ _ us hl => match us, hl with | [_], _ => rfl
  have b13 := F13.binds (ps := ["_law_word"]) fun _ _ _ _ _ _ us hl => match us, hl with | [_], _ => rfl
  have b14 := F14.binds (ps := ["_law_word"]) fun _ _ _ _ _ _ us hl => match us, hl with | [_], _ => rfl
  have b15 := F15.binds (ps := ["_law_word", "_law_way", "_law_at", "_law_pick"]) fun _ _ _ _ _ _ us hl => match us, hl with | [_, _, _, _], _ => rfl
  have b16 := F16.binds (ps := ["_law_pick"]) fun _ _ _ _ _ _ us hl => match us, hl with | [_], _ => rfl
  have b17 := F17.binds (ps := ["_law_cell_here"]) fun _ _ _ _ _ _ us hl => match us, hl with | [_], _ => rfl
  have b18 := F18.binds (ps := ["_law_laying_here"]) fun _ _ _ _ _ _ us hl => match us, hl with | [_], _ => rfl
  have b20 := F20.binds (ps := ["self", "text"]) fun _ _ _ _ _ _ us hl => match us, hl with | [_, _], _ => rfl
  have NP : NoP K mg C f20 _ := ⟨PySem.W.mg_of X G aC, ⟨⟨nm_C, q_C, N_C, bs_C, bm_C, sn_C, sub_C, ab_C, col_C, dd_C, m0_C, m1_C, m2_C, m3_C, m5_C, x_C, xb_C⟩, sa_C, xe_C, xt_C, xk_C⟩, f_C_text, a20, t20, F20, b20⟩
  have ER : Errs K mg C CL CB CP := ⟨PySem.W.mg_of X G aCL, PySem.W.mg_of X G aCB, PySem.W.mg_of X G aCP, ⟨hg_C, hk_C, xe_C, hd_C, ha_C, hn_C, ht_C, hm_C⟩, PySem.W.exm_ref xe_C hd_C xt_C ls_C, q1_C, q2_C, q3_C, q4_C⟩
  exact ⟨PySem.W.fnOf "law" "law" (defArgs sLaw) (defBody sLaw) (defScope sLaw) .none kV19 dc19 pm19 an19 cd19 ct19, fun s v => .of_eq rfl, fun base _ _ =>
    ok_law B Z NP ER F19 F1 b1 (PySem.W.mg_of X G a1) F2 b2 (PySem.W.mg_of X G a2) F3 b3 (PySem.W.mg_of X G a3) F4 b4 (PySem.W.mg_of X G a4) F5 b5 (PySem.W.mg_of X G a5) F6 b6 (PySem.W.mg_of X G a6) F7 b7 (PySem.W.mg_of X G a7) F8 b8 (PySem.W.mg_of X G a8) F9 b9 (PySem.W.mg_of X G a9) F10 b10 (PySem.W.mg_of X G a10) F11 b11 (PySem.W.mg_of X G a11) F12 b12 (PySem.W.mg_of X G a12) F13 b13 (PySem.W.mg_of X G a13) F14 b14 (PySem.W.mg_of X G a14) F15 b15 (PySem.W.mg_of X G a15) F16 b16 (PySem.W.mg_of X G a16) F17 b17 (PySem.W.mg_of X G a17) F18 b18 (PySem.W.mg_of X G a18)⟩
end K74
open PySem PySem.W PyProof.Rows
set_option maxRecDepth 100000 in
set_option maxHeartbeats 0 in
theorem PySem.Challenge.cw_laidforall_k74_places_and_layings_writte_holds : PySem.Challenge.rw_laidforall_k74_places_and_layings_writte.Holds := by
  w_on; o_law; k_head; (case hw => w_witness2)
  k_fill
  refine L2.walk_of (l := PySem.Challenge.rw_laidforall_k74_places_and_layings_writte) (n := 63) (k := 5) (x := "_law_script") (CX := fun _ => L2.CX0) (sp := fun w => K74.spLaw _) rfl (by decide) rfl ⟨rfl, by decide, by decide⟩ (fun w h Y => PySem.W.kIn_of Y) ?F (fun _ _ a ns hl _ hS => ⟨a, ns, rfl, hS, hl, fun _ => rfl⟩) (fun _ _ _ _ _ h => h)
  case F =>
    intro w mg fa h KX G hmg
    refine' K74.all_mk KX G hmg ?zz_c_LONGEST_NUMBER ?zz_c_ROOT ?zz_c_MOST_INDEXES ?zz_aCL ?zz_aCB ?zz_aCP ?zz_aC ?zz_x_C ?zz_xb_C ?zz_sa_C ?zz_xe_C ?zz_xt_C ?zz_xk_C ?zz_f_C_text ?zz_hg_C ?zz_hk_C ?zz_hd_C ?zz_ha_C ?zz_hn_C ?zz_ht_C ?zz_hm_C ?zz_ls_C ?zz_q1_C ?zz_q2_C ?zz_q3_C ?zz_q4_C ?zz_a1 ?zz_l1 ?zz_c1 ?zz_k1 ?zz_a2 ?zz_l2 ?zz_c2 ?zz_k2 ?zz_a3 ?zz_l3 ?zz_c3 ?zz_k3 ?zz_a4 ?zz_l4 ?zz_c4 ?zz_k4 ?zz_a5 ?zz_l5 ?zz_c5 ?zz_k5 ?zz_a6 ?zz_l6 ?zz_c6 ?zz_k6 ?zz_a7 ?zz_l7 ?zz_c7 ?zz_k7 ?zz_a8 ?zz_l8 ?zz_c8 ?zz_k8 ?zz_a9 ?zz_l9 ?zz_c9 ?zz_k9 ?zz_a10 ?zz_l10 ?zz_c10 ?zz_k10 ?zz_a11 ?zz_l11 ?zz_c11 ?zz_k11 ?zz_a12 ?zz_l12 ?zz_c12 ?zz_k12 ?zz_a13 ?zz_l13 ?zz_c13 ?zz_k13 ?zz_a14 ?zz_l14 ?zz_c14 ?zz_k14 ?zz_a15 ?zz_l15 ?zz_c15 ?zz_k15 ?zz_a16 ?zz_l16 ?zz_c16 ?zz_k16 ?zz_a17 ?zz_l17 ?zz_c17 ?zz_k17 ?zz_a18 ?zz_l18 ?zz_c18 ?zz_k18 ?zz_a19 ?zz_l19 ?zz_c19 ?zz_k19 ?zz_a20 ?zz_l20 ?zz_c20 ?zz_k20 ?zz_t20 ?zz_z0 ?zz_z1 ?zz_z2 ?zz_z3 ?zz_z4 ?zz_z5 ?zz_z6 ?zz_z7 ?zz_z8 ?zz_z9 ?zz_z10
    (case zz_c_LONGEST_NUMBER => first | k_is | rfl)
    (case zz_c_ROOT => first | k_is | rfl)
    (case zz_c_MOST_INDEXES => first | k_is | rfl)
    (case zz_aCL => first | k_is | rfl)
    (case zz_aCB => first | k_is | rfl)
    (case zz_aCP => first | k_is | rfl)
    (case zz_aC => first | k_is | rfl)
    (case zz_x_C => first | k_is | rfl)
    (case zz_xb_C => decide +kernel)
    (case zz_sa_C => first | k_is | rfl)
    (case zz_xe_C => first | k_is | rfl)
    (case zz_xt_C => first | k_is | rfl)
    (case zz_xk_C => first | k_is | rfl)
    (case zz_f_C_text => first | k_is | rfl)
    (case zz_hg_C => first | k_is | rfl)
    (case zz_hk_C => first | k_is | rfl)
    (case zz_hd_C => first | k_is | rfl)
    (case zz_ha_C => first | k_is | rfl)
    (case zz_hn_C => first | k_is | rfl)
    (case zz_ht_C => first | k_is | rfl)
    (case zz_hm_C => first | k_is | rfl)
    (case zz_ls_C => first | k_is | rfl)
    (case zz_q1_C => first | k_is | rfl)
    (case zz_q2_C => first | k_is | rfl)
    (case zz_q3_C => first | k_is | rfl)
    (case zz_q4_C => first | k_is | rfl)
    (case zz_a1 => first | k_is | rfl)
    (case zz_l1 => first | k_is | rfl)
    (case zz_c1 => first | k_is | rfl)
    (case zz_k1 => first | k_is | rfl)
    (case zz_a2 => first | k_is | rfl)
    (case zz_l2 => first | k_is | rfl)
    (case zz_c2 => first | k_is | rfl)
    (case zz_k2 => first | k_is | rfl)
    (case zz_a3 => first | k_is | rfl)
    (case zz_l3 => first | k_is | rfl)
    (case zz_c3 => first | k_is | rfl)
    (case zz_k3 => first | k_is | rfl)
    (case zz_a4 => first | k_is | rfl)
    (case zz_l4 => first | k_is | rfl)
    (case zz_c4 => first | k_is | rfl)
    (case zz_k4 => first | k_is | rfl)
    (case zz_a5 => first | k_is | rfl)
    (case zz_l5 => first | k_is | rfl)
    (case zz_c5 => first | k_is | rfl)
    (case zz_k5 => first | k_is | rfl)
    (case zz_a6 => first | k_is | rfl)
    (case zz_l6 => first | k_is | rfl)
    (case zz_c6 => first | k_is | rfl)
    (case zz_k6 => first | k_is | rfl)
    (case zz_a7 => first | k_is | rfl)
    (case zz_l7 => first | k_is | rfl)
    (case zz_c7 => first | k_is | rfl)
    (case zz_k7 => first | k_is | rfl)
    (case zz_a8 => first | k_is | rfl)
    (case zz_l8 => first | k_is | rfl)
    (case zz_c8 => first | k_is | rfl)
    (case zz_k8 => first | k_is | rfl)
    (case zz_a9 => first | k_is | rfl)
    (case zz_l9 => first | k_is | rfl)
    (case zz_c9 => first | k_is | rfl)
    (case zz_k9 => first | k_is | rfl)
    (case zz_a10 => first | k_is | rfl)
    (case zz_l10 => first | k_is | rfl)
    (case zz_c10 => first | k_is | rfl)
    (case zz_k10 => first | k_is | rfl)
    (case zz_a11 => first | k_is | rfl)
    (case zz_l11 => first | k_is | rfl)
    (case zz_c11 => first | k_is | rfl)
    (case zz_k11 => first | k_is | rfl)
    (case zz_a12 => first | k_is | rfl)
    (case zz_l12 => first | k_is | rfl)
    (case zz_c12 => first | k_is | rfl)
    (case zz_k12 => first | k_is | rfl)
    (case zz_a13 => first | k_is | rfl)
    (case zz_l13 => first | k_is | rfl)
    (case zz_c13 => first | k_is | rfl)
    (case zz_k13 => first | k_is | rfl)
    (case zz_a14 => first | k_is | rfl)
    (case zz_l14 => first | k_is | rfl)
    (case zz_c14 => first | k_is | rfl)
    (case zz_k14 => first | k_is | rfl)
    (case zz_a15 => first | k_is | rfl)
    (case zz_l15 => first | k_is | rfl)
    (case zz_c15 => first | k_is | rfl)
    (case zz_k15 => first | k_is | rfl)
    (case zz_a16 => first | k_is | rfl)
    (case zz_l16 => first | k_is | rfl)
    (case zz_c16 => first | k_is | rfl)
    (case zz_k16 => first | k_is | rfl)
    (case zz_a17 => first | k_is | rfl)
    (case zz_l17 => first | k_is | rfl)
    (case zz_c17 => first | k_is | rfl)
    (case zz_k17 => first | k_is | rfl)
    (case zz_a18 => first | k_is | rfl)
    (case zz_l18 => first | k_is | rfl)
    (case zz_c18 => first | k_is | rfl)
    (case zz_k18 => first | k_is | rfl)
    (case zz_a19 => first | k_is | rfl)
    (case zz_l19 => first | k_is | rfl)
    (case zz_c19 => first | k_is | rfl)
    (case zz_k19 => first | k_is | rfl)
    (case zz_a20 => first | k_is | rfl)
    (case zz_l20 => first | k_is | rfl)
    (case zz_c20 => first | k_is | rfl)
    (case zz_k20 => first | k_is | rfl)
    (case zz_t20 => first | k_is | rfl)
    (case zz_z0 => first | k_is | rfl)
    (case zz_z1 => first | k_is | rfl)
    (case zz_z2 => first | k_is | rfl)
    (case zz_z3 => first | k_is | rfl)
    (case zz_z4 => first | k_is | rfl)
    (case zz_z5 => first | k_is | rfl)
    (case zz_z6 => first | k_is | rfl)
    (case zz_z7 => first | k_is | rfl)
    (case zz_z8 => first | k_is | rfl)
    (case zz_z9 => first | k_is | rfl)
    (case zz_z10 => first | k_is | rfl)

