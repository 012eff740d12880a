import PyProof.Rows.All
import Wide.All
import OpenK.AllK
import Wide.FinOn
import HandS.ForMost
import HandS.OwnIter
import HandS.IterNext
import HandS.IterVal
import HandS.Call
import HandS.ExcOwn
import KE.KIsAll
import KE.KTryMore
import HandS.More
import HandS.OwnEq
import HandS.SlotsOwn
import HandS.Property
import KE.KCallOwn
import HandS.Words
import HandS.WordsExc
import HandS.ForExc
import HandS.ExcInit
import HandS.ExcIs
import HandS.ExcField
import HandS.IsInst
import HandS.TupAny
import HandS.Walk
import HandS.NoneIn
import HandS.Evl
import HandS.FStr
import HandS.Text
import HandS.StrMore
import HandS.Deep
import HandS.Codes
import HandS.Conv
import HandS.Star
import HandS.Wide
import HandS.RaiseMore
import HandS.TupLe
import PySem.Challenge.RW_laidforall_k10_patterns_read
set_option Elab.async false
set_option linter.all false
set_option maxRecDepth 100000
set_option maxHeartbeats 2000000
namespace RO
open PySem PySem.Spec PyProof.Rows L2 ItX
/-! ### a def whose promise knows how large the heap was -/
structure FnN (P : Program) (w : World) (K : PySem.W.Frag) (mg : Str → Option Value) (base : Heap) (CX : CXT) (k : Nat) (f : Addr) (fd : FuncData) (ps : List Str) (sp : Nat → Sp) : Prop where
  len : ∀ n vs H Q E, sp n vs H Q E → vs.length = ps.length
  run : ∀ (A : Around) (outer : List Env) (s : Shared) (H : Hp) (args : Args) (us : List Value) (vs : List V) (Q : VK) (E : XK), Room k A → Env0 P w K mg base A outer s H → BindsTo s fd args (ps.zip us) → Vals vs us → sp s.heap.objs.size vs H Q E →
    codeAny (model P w) A (.call (.ref f) args) (CR CX outer P w H s Q E) s
theorem fn_ofN {CX : CXT} {P : Program} {w : World} {K : PySem.W.Frag} {mg : Str → Option Value} {base : Heap} {k : Nat} {f : Addr} {name qual : Str} {params : Arguments} {body : List Stmt} {scope : Scope} {dV kV doc pm cdv ct oc : Value} {an od : Option Addr}
    {osl : Array (Option Value)} {N ps : List Str} {sp : Nat → Sp} (lk : K.lookup f = some ⟨oc, od, .func (PySem.W.fnOf name qual params body scope dV kV doc pm an cdv ct), osl⟩) (hcd : PySem.W.codeIn K cdv qual = true) (S : FnScope N ps scope)
    (len : ∀ n vs H Q E, sp n vs H Q E → vs.length = ps.length)
    (hbody : ∀ (A : Around) (outer : List Env) (s : Shared) (H : Hp) (vs : List V) (Q : VK) (E : XK), Room k (A.deeper (envOfC qual scope s.heap.objs.size f cdv)) → sp s.heap.objs.size vs H Q E →
      ∃ t, PSs (cxOf CX P w K mg base N qual scope f cdv A outer s H E) body t ∧ t { nx := fun _ H' => Q .non H', rt := Q } (start N vs) H) :
    FnN P w K mg base CX (k + 1) f (PySem.W.fnOf name qual params body scope dV kV doc pm an cdv ct) ps sp := by
  refine ⟨len, fun A outer s H args us vs Q E hr e0 hb r hsp => ?_⟩
  have hl := len _ _ _ _ _ hsp
  have KX : K.In s.heap := e0.mod.kin.keeps fun b o e => (e0.bs b o e).1
  have lim : s.heap.NoLimit := e0.mod.nolimit.keeps fun b o e => (e0.bs b o e).1
  have hkind : ∀ y ∈ ps.zip us, scope.names.lookup y.1 = some .local ∨ (scope.names.lookup y.1 = some .cell ∧ ((cellsFrom (s.heap.objs.size + 1) scope.names []).lookup y.1).isSome = true) := fun ⟨n, v⟩ hy => by
    rcases S.par n (List.of_mem_zip hy).1 with q | q
    · exact .inl q
    · exact .inr ⟨q, PySem.W.cellsFrom_some _ _ _ (.inl q)⟩
  refine codeAny_call_function hr.depth (KX _ _ lk) rfl S.co S.gen rfl (PySem.W.codeRec_of KX hcd) (hb _ _ _ _ ?_)
  refine wpAny_newFunctionEnv_cells S.kind hkind fun env he s1 x => ?_
  subst he
  refine ⟨lim.keeps x.toInCall.keep, codeAny_func ?_⟩
  obtain ⟨t, ht, hq⟩ := hbody A outer s H vs Q E (hr.deeper _) hsp
  have I : Inv (cxOf CX P w K mg base N qual scope f cdv A outer s H E) [] (start N vs) H s1 := inv_start S hr.hd e0 hl r x
  refine wpAny_mono (ht.run [] s1 (start N vs) H _ I hq) (fun fl s' hs => ?_) fun e s' hs => hs
  have fin : ∀ {σ' : L2.St} {H' : Hp} {v : V} {u : Value}, Inv (cxOf CX P w K mg base N qual scope f cdv A outer s H E) [] σ' H' s' → RelV v u → Q v H' → CE outer P w H s Q u s' :=
    fun {σ' H' v u} J rv q => ⟨v, H', J.os, J.bare, J.base, J.hok, rv, q⟩
  cases fl with
  | ret u =>
    obtain ⟨v, σ', H', J, rv, q⟩ := hs
    exact fin J rv q
  | next =>
    obtain ⟨σ', H', J, q⟩ := hs
    exact fin (v := V.non) (u := Value.none) J rfl q
  | brk =>
    obtain ⟨_, _, _, q⟩ := hs
    exact False.elim q
  | cont =>
    obtain ⟨_, _, _, q⟩ := hs
    exact False.elim q
section
variable {P : Program} {w : World} {K : PySem.W.Frag} {mg : Str → Option Value} {base : Heap}
theorem fun_okN {x qual : Str} {st : Stmt} {f : Addr} {fd : FuncData} {N ps : List Str} {k : Nat} {sp : Nat → Sp} (F : Fun K x qual st f fd) (S : FnScope N ps (defScope st)) (len : ∀ n vs H Q E, sp n vs H Q E → vs.length = ps.length)
    (hbody : ∀ (cdv : Value) (A : Around) (outer : List Env) (s : Shared) (H : Hp) (vs : List V) (Q : VK) (E : XK), Room k (A.deeper (envOfC qual (defScope st) s.heap.objs.size f cdv)) → sp s.heap.objs.size vs H Q E →
      ∃ t, PSs (cxOf CX0 P w K mg base N qual (defScope st) f cdv A outer s H E).nox (defBody st) t ∧ t { nx := fun _ H' => Q .non H', rt := Q } (start N vs) H) : FnN P w K mg base CX0 (k + 1) f fd ps sp := by
  obtain ⟨oc, od, kV, doc, pm, an, cdv, ct, osl, rfl, lk, hcd⟩ := F.ex
  refine fn_ofN lk hcd S len fun A outer s H vs Q E hr hsp => ?_
  obtain ⟨t, h, q⟩ := hbody cdv A outer s H vs Q E hr hsp
  exact ⟨t, h.nox, q⟩
end
/-- __iter__ hands back a new iterator over the list in a field -/
def spIt (C : Addr) (fld : Str) (n : Nat) : Sp := fun vs H Q _ => ∃ (p dx l : Addr) (fs : List (Str × V)), vs = [.ref p] ∧ H p = some (.ins C dx fs) ∧ fs.lookup fld = some (.ref l) ∧ (∃ zs, H l = some (.lst zs)) ∧ ∀ it, H it = none → n ≤ it → Q (.ref it) (upd H it (ItO l it 0))
/-- what a class with such an __iter__ has -/
structure ItrC (X : Cx) (C fi : Addr) (fdI : FuncData) (fld : Str) (k : Nat) : Prop where
  it : PySem.W.findIn X.K (.ref C) "__iter__" = some (some (.ref fi))
  itF : PySem.W.isFn X.K (.ref fi) = true
  fn : FnN X.prog X.w X.K X.mg X.base CX0 k fi fdI ["self"] (spIt C fld)
  bi : Binds X.K fdI ["self"] []
section
variable {X : Cx} {pins : List (Addr × Obj)} {σ : L2.St} {H : Hp} {s : Shared} {A1 : Around} {C fi fl p dx l : Addr} {fdI fdL : FuncData} {fld : Str} {k : Nat} {fs : List (Str × V)} {zs : List V}
theorem env_sub (I : Inv X pins σ H s) (sb : Sub X k A1) : Env0 X.prog X.w X.K X.mg X.base A1 X.stack s H := by
  have e := I.env0
  exact ⟨by rw [sb.fr]; exact e.frames, e.mod, e.bs, e.bsz, e.funs, e.frf, e.hok, e.bare⟩
/-- iter(o) -/
theorem own_iter {Q : Value → Shared → Prop} (sb : Sub X k A1) (c : ItrC X C fi fdI fld k) (I : Inv X pins σ H s) (hp : H p = some (.ins C dx fs)) (hf : fs.lookup fld = some (.ref l)) (hl : H l = some (.lst zs))
    (h : ∀ it s', H it = none → s.heap.objs.size ≤ it → s'.heap.IsListIter it l 0 → s'.heap.get? it = some (GNX.itObj l 0) → Inv X pins σ H s' → Q (.ref it) s') : wpAny (model X.prog X.w) A1 (pyIter (.ref p)) Q X.xe s := by
  obtain ⟨mA, J, _⟩ := ins_get I.hok hp
  obtain ⟨od, J, _⟩ := J.look
  obtain ⟨m0, hF⟩ := I.fr
  refine PySem.W.owit_iter hF I.ok.mod.kin J c.it c.itF ?_
  have hsp : spIt C fld s.heap.objs.size [.ref p] H (fun v H' => ∃ it, v = .ref it ∧ H it = none ∧ s.heap.objs.size ≤ it ∧ H' = upd H it (ItO l it 0)) E0 := ⟨p, dx, l, fs, rfl, hp, hf, ⟨zs, hl⟩, fun it h1 h2 => ⟨it, rfl, h1, h2, rfl⟩⟩
  have r2 : Vals [V.ref p] [Value.ref p] := .cons rfl .nil
  refine wpAny_call (codeAny_mono (c.fn.run A1 X.stack s H ⟨[.ref p], []⟩ [.ref p] [.ref p] _ E0 sb.room (env_sub I sb) (by
    have := c.bi s [.ref p] I.kIn rfl
    simpa using this) r2 hsp) fun r s' hq => ?_)
  cases r with
  | error e => exact absurd hq (fun z => z.elim)
  | ok fl =>
    cases fl with
    | next => exact False.elim hq
    | brk => exact False.elim hq
    | cont => exact False.elim hq
    | ret u =>
      obtain ⟨v, H', I', rv, it, rfl, hn, hsz, rfl⟩ := I.after hq
      cases rv
      have eo := itO_get I' upd_same
      have I2 := inv_drop I' (show upd H it (ItO l it 0) it = some (.ext _) from upd_same)
      rw [dropH_upd hn] at I2
      have hT : s'.TypeIs (.ref it) "list_iterator" := ⟨_, eo, rfl⟩
      unfold PySem.W.OwitIt
      exact wpAny_specialOf (name := Str.ofString "__next__") hT slot_listiter_next.lookup (h it s' hn hsz ⟨_, eo, rfl, rfl⟩ eo I2)
/-- len(o) by an own __len__ that only tells -/
theorem own_len {Q : Value → Shared → Prop} {E' : Value → Shared → Prop} {sp : Sp} {m : Nat} (sb : Sub X k A1.in1) (hlen : PySem.W.findIn X.K (.ref C) "__len__" = some (some (.ref fl))) (hf : PySem.W.typeIn X.K (.ref fl) = some (.type "function")) (F : FnOk X.prog X.w X.K X.mg X.base CX0 k fl fdL ["self"] sp) (b : Binds X.K fdL ["self"] [])
    (I : Inv X pins σ H s) (hp : H p = some (.ins C dx fs)) (hm : m ≤ sizeLine) (hsp : sp [.ref p] H (fun v H' => v = .int (m : Int) ∧ H' = H) E0)
    (h : ∀ t s', Inv X pins σ H s' → Q (.int (m : Int) t) s') : wpAny (model X.prog X.w) A1 (call (.builtin "len") [.ref p]) Q E' s := by
  obtain ⟨mA, J, _⟩ := ins_get I.hok hp
  obtain ⟨od, J, _⟩ := J.look
  refine Calls.call_function_entry kind_len plain_len entry_len (args_len1 _) ?_
  unfold Builtin.«len»
  refine wpAny_bind (m := oneArg "len" _) (wpAny_pure ?_)
  have r2 : Vals [V.ref p] [Value.ref p] := .cons rfl .nil
  refine wpAny_bind (m := callSpecial? (.ref p) (PySem.Str.ofString "__len__")) (PySem.W.special_fn I.kIn J hlen hf ?_)
  refine wpAny_call (codeAny_mono (F.run A1.in1 X.stack s H ⟨[.ref p], []⟩ [.ref p] [.ref p] _ E0 sb.room (env_sub I sb) (by
    have := b s [.ref p] I.kIn rfl
    simpa using this) r2 hsp) fun r s' hq => ?_)
  cases r with
  | error e => exact absurd hq (fun z => z.elim)
  | ok fl =>
    cases fl with
    | next => exact False.elim hq
    | brk => exact False.elim hq
    | cont => exact False.elim hq
    | ret u =>
      obtain ⟨v, H', I', rv, rfl, rfl⟩ := I.after hq
      obtain ⟨t, rfl⟩ := rv
      have hs : sizeLine = 16777216 := sizeLine_eq
      refine wpAny_bind (wpAny_holding (wpAny_pure ?_))
      refine wpAny_bind (wpAny_letGo ?_)
      show wpAny _ _ (if ((m : Nat) : Int) < 0 then _ else _) _ _ _
      rw [if_neg (by omega)]
      show wpAny _ _ (if ((m : Nat) : Int) ≥ 2 ^ 63 then _ else _) _ _ _
      rw [if_neg (by omega)]
      exact wpAny_bind (wpAny_mkInt (wpAny_pure ⟨_, rfl, h _ _ (I'.tok _)⟩))
end
section
variable {X : Cx} {C fi fl : Addr} {fdI fdL : FuncData} {fld : Str} {k : Nat}
/-! ### for x in o -/
def iOwnL (C : Addr) (fld : Str) (K : PySem.W.Frag) (te : TE) : TI := fun σ H R => te σ H fun v H1 => ∃ (p dx l : Addr) (fs : List (Str × V)) (zs : List V), v = .ref p ∧ H1 p = some (.ins C dx fs) ∧ fs.lookup fld = some (.ref l) ∧ H1 l = some (.lst zs) ∧ R (Itl K l) H1
theorem pi_ownL {tg e : Expr} {te : TE} (c : ItrC X C fi fdI fld k) (hr : Room k X.A) (he : PE X e te) : PI X tg e (iOwnL C fld X.K te) := by
  refine ⟨fun pins s σ H R I h => ?_⟩
  refine thn (he.run pins s σ H _ I h) fun v s1 ⟨y, H1, I1, ry, p, dx, l, fs, zs, ey, hp, hf, hl, q⟩ => ?_
  subst ey
  cases ry
  refine own_iter (⟨hr, rfl⟩ : Sub X k X.A) c I1 hp hf hl fun it s' hn hsz hli eo I' => ?_
  exact ⟨it, [it], _, _, H1, rfl, I', turn_list l it, hli, fun b hb => by rw [List.mem_singleton.mp hb]; exact I1.fpOk hsz hn, q⟩
/-! ### len(o) -/
theorem call_lenOwn {sp : Sp} (hlen : PySem.W.findIn X.K (.ref C) "__len__" = some (some (.ref fl))) (hf : PySem.W.typeIn X.K (.ref fl) = some (.type "function")) (F : FnOk X.prog X.w X.K X.mg X.base CX0 k fl fdL ["self"] sp) (b : Binds X.K fdL ["self"] []) (hr : Room (k + 1) X.A) :
    CallR X (.builtin "len") (fun xs H Q => ∃ (p dx : Addr) (fs : List (Str × V)) (m : Nat), xs = [.ref p] ∧ H p = some (.ins C dx fs) ∧ m ≤ sizeLine ∧ sp [.ref p] H (fun v H' => v = .int (m : Int) ∧ H' = H) E0 ∧ Q (.int (m : Int)) H) := by
  intro pins s σ H xs us Q I r h
  obtain ⟨p, dx, fs, m, rfl, hp, hm, hsp, q⟩ := h
  obtain ⟨u, rfl, ru⟩ := vals1 r
  obtain rfl : u = Value.ref p := ru
  exact own_len (Sub.in1 (⟨hr, rfl⟩ : Sub X (k + 1) X.A)) hlen hf F b I hp hm hsp fun t s' I' => ⟨.int (m : Int), H, I', ⟨_, rfl⟩, q⟩
end
end RO

set_option maxRecDepth 100000
set_option maxHeartbeats 2000000
namespace R6
open PySem PySem.Spec PyProof.Rows L2
/-! ### an own class made inside a try: __init__ may raise -/
section
variable {X : Cx} {CX : CXT} {k : Nat} {f C : Addr} {fd : FuncData} {ps : List Str} {ds : List Value} {dvs : List V} {sp : Sp} {E : L2.St → XK} {x : Str} {p pos : Pos} {e : Expr} {es : List Expr} {t : TA}
theorem run_makeS {pins : List (Addr × Obj)} {σ : L2.St} {H : Hp} {s : Shared} {Q : VK} {us : List Value} {vs : List V} (M : Mk X.K C f) (F : FnOk X.prog X.w X.K X.mg X.base CX k f fd ps sp) (hr : Room (k + 1) X.A) (hb : Binds X.K fd ps ds) (hd : Vals dvs ds)
    (hx : PassesAt CX X σ (E σ)) (I : Inv X pins σ H s) (r : Vals vs us)
    (h : ∀ x dx, H x = none → H dx = none → dx ≠ x → sp (.ref x :: (vs ++ dvs)) (upd (upd H dx (.own x)) x (.ins C dx [])) (fun v H2 => v = .non ∧ Q (.ref x) H2) (E σ)) :
    wpAny (model X.prog X.w) X.A (call (.ref C) us) (EP X pins σ Q) X.xe s := by
  have hq := h (s.heap.objs.size + 1) s.heap.objs.size (I.hok.fresh (Nat.le_succ _)) (I.hok.fresh (Nat.le_refl _)) (Nat.ne_of_lt (Nat.lt_succ_self _))
  have I2 := Inv.made (C := C) I
  have r2 : Vals (V.ref (s.heap.objs.size + 1) :: (vs ++ dvs)) (Value.ref (s.heap.objs.size + 1) :: (us ++ ds)) := .cons rfl (r.append hd)
  have hl : (Value.ref (s.heap.objs.size + 1) :: us ++ ds).length = ps.length := by
    have e := r2.length
    rw [F.len _ _ _ _ hq] at e
    exact e.symm
  refine wpAny_call (make_map (f := f) I.kIn M.makes M.init (beq_iff_eq.mp M.fn) (codeAny_mono (F.run _ X.stack _ _ ⟨Value.ref (s.heap.objs.size + 1) :: us, []⟩ (Value.ref (s.heap.objs.size + 1) :: (us ++ ds)) _ _ (E σ) (hr.make C us [])
    (I2.env0.make C us []) (hb _ (Value.ref (s.heap.objs.size + 1) :: us) I2.kIn hl) r2 hq) fun r s' hq' => ?_))
  cases r with
  | error e => exact hx pins _ _ e s' I2 hq'
  | ok fl =>
    cases fl with
    | ret u =>
      obtain ⟨v, H', I3, rv, ev, q3⟩ := I2.after hq'
      subst ev
      exact ⟨rv, ⟨V.ref (s.heap.objs.size + 1), H', I3, rfl, q3⟩⟩
    | next => exact False.elim hq'
    | brk => exact False.elim hq'
    | cont => exact False.elim hq'
def tMakeS (C : Addr) (sp : Sp) (dvs : List V) (E : L2.St → XK) (t : TA) : TE := fun σ H Q => t σ H fun vs H1 => ∀ x dx, H1 x = none → H1 dx = none → dx ≠ x → sp (.ref x :: (vs ++ dvs)) (upd (upd H1 dx (.own x)) x (.ins C dx [])) (fun v H2 => v = .non ∧ Q (.ref x) H2) (E σ)
theorem pe_makeS (M : Mk X.K C f) (F : FnOk X.prog X.w X.K X.mg X.base CX k f fd ps sp) (hr : Room (k + 1) X.A) (hg : Gl X x) (hm : X.mg x = some (.ref C)) (hb : Binds X.K fd ps ds) (hd : Vals dvs ds) (hx : ∀ σ, PassesAt CX X σ (E σ))
    (ha : PA X (e :: es) t) (hdb : (x == ("__debug__" : Str)) = false := by decide) (he : starEach (e :: es) X.env = (false, eval e X.env) :: starEach es X.env := by rfl) (hpl : (backTo pos (starEach es X.env)).any (·.1) = false := by rfl) :
    PE X (.Call (.Name x p) (e :: es) [] pos) (tMakeS C sp dvs E t) := by
  refine ⟨fun pins s σ H Q I h => ?_⟩
  refine wpAny_Call_Name_kw (ld_glob I hg hm ?_ hdb)
  refine PySem.W.callWith_K (h₀ := X.base) I.ok.mod.kin M.kp (thn (ha.run pos pins s σ H _ I h) fun us s1 ⟨vs, H1, I1, r, q⟩ => ⟨I1.kIn, ?_⟩) he hpl
  exact run_makeS M F hr hb hd (hx σ) I1 r q
end
end R6

set_option maxRecDepth 100000
set_option maxHeartbeats 4000000
namespace R7
open PySem PySem.Spec PyProof.Rows L2
/-! ### str.__eq__ asked of an object -/
theorem str_eq_ref (z : Str) (t : Tok) (a : Addr) (o : Obj) (hd : o.data = .plain) :
    Meets (Builtin.«str.__eq__» ⟨[.str z t, .ref a], []⟩) (fun _ R s => s.heap.get? a = some o ∧ R (.ok (.ret .notImplemented)) s) :=
  .of_wp fun prog w A R s h => by
    obtain ⟨hp, g, d, tk, os⟩ := s
    obtain ⟨hl, h⟩ := h
    wp_walk using wpAny_load hl
    rw [hd]
    exact wpAny_pure (wpAny_bind (wpAny_rule (wpAny_pure ⟨_, rfl, h⟩)))
section
variable {prog : Program} {w : World} {A : Around} {E : Value → Shared → Prop} {s : Shared} {K : PySem.W.Frag} {x C f : Addr} {ox : Obj} {od : Option Obj}
theorem sub_str : PySem.W.subIn K (.type "str") (.ref C) = some false := by
  have e : fastBuiltinMro "str" = some [.type "str", .type "object"] := by decide +kernel
  show (fastBuiltinMro "str").map (·.contains (.ref C)) = some false
  rw [e]
  first
    | rfl
    | simp
/-- an instance compared with a text, its own == says NotImplemented -/
theorem rc_ni {z : Str} {t : Tok} {Q : Value → Shared → Prop} (hu : A.units < cLine) (X : K.In s.heap) (I : PySem.W.InstAt s.heap x ox C od) (hs : PySem.W.findIn K (.ref C) "__eq__" = some (some (.ref f))) (hf : PySem.W.isFn K (.ref f) = true)
    (hcall : wpAny (model prog w) A (call (.ref f) [.ref x, .str z t]) (fun v s' => v = .notImplemented ∧ (∃ o, s'.heap.get? x = some o ∧ o.data = .plain) ∧ Q (.bool false) s') E s) :
    wpAny (model prog w) A (richCompare .Eq (.ref x) (.str z t)) Q E s := by
  have one : wpAny (model prog w) A (tryCompare (.ref x) "__eq__" (.str z t)) (fun r s' => r = none ∧ (∃ o, s'.heap.get? x = some o ∧ o.data = .plain) ∧ Q (.bool false) s') E s := by
    unfold tryCompare
    refine wpAny_bind (PySem.W.ifBound_K X I hs hf (wpAny_mono hcall (fun v s' hv => ?_) fun _ _ e => e))
    obtain ⟨rfl, h1, h2⟩ := hv
    exact wpAny_pure ⟨rfl, h1, h2⟩
  have two : ∀ s', (∃ o, s'.heap.get? x = some o ∧ o.data = .plain) → Q (.bool false) s' → wpAny (model prog w) A (tryCompare (.str z t) "__eq__" (.ref x)) (fun r s2 => r = none ∧ Q (.bool false) s2) E s' := fun s' ⟨o, h1, h2⟩ hq =>
    wpAny_tryCompare_declines (typeIs_str s' z t) F.slot_str_eq (call_meets F.slot_str_eq (typeIs_str s' z t) F.entry_str_eq (F.args_str_eq_2 _ _) (str_eq_ref z t x o h2) ⟨h1, rfl, rfl, hq⟩)
  simp only [richCompare, cmpInfo_Eq, oneThing_ref]
  refine wpAny_holding (wpAny_bind (wpAny_cRoomFor hu ?_))
  refine wpAny_bind (I.type.here ?_)
  refine wpAny_bind (wpAny_typeOf (typeIs_str s z t) ?_)
  split
  · refine wpAny_bind ((PySem.W.looks_subIn X sub_str).here ?_)
    simp only [Bool.false_eq_true, if_false, Bool.not_false, if_true]
    refine wpAny_bind (m := tryCompare (.ref x) _ (.str z t)) (wpAny_mono one (fun r s1 y => ?_) fun _ _ e => e)
    obtain ⟨y1, y2, y3⟩ := y
    subst y1
    refine wpAny_bind (m := tryCompare (.str z t) _ (.ref x)) (wpAny_mono (two s1 y2 y3) (fun r s2 y => ?_) fun _ _ e => e)
    obtain ⟨y1, y4⟩ := y
    subst y1
    exact wpAny_bind (wpAny_rule (wpAny_bind (wpAny_of_eq (rfl : isSame (.ref x) (.str z t) = pure false) (wpAny_pure y4))))
  · rename_i q
    exact absurd (by simp) q
end
/-! ### a def that answers NotImplemented -/
/-- what it promises: R says of arguments, the heap and a wish for the heap behind -/
def NiOk (P : Program) (w : World) (K : PySem.W.Frag) (mg : Str → Option Value) (base : Heap) (k : Nat) (f : Addr) (R : List V → Hp → (Hp → Prop) → Prop) : Prop :=
  ∀ (A : Around) (outer : List Env) (s : Shared) (H : Hp) (us : List Value) (vs : List V) (Rh : Hp → Prop), Room k A → Env0 P w K mg base A outer s H → Vals vs us → R vs H Rh →
    codeAny (model P w) A (.call (.ref f) ⟨us, []⟩) (fun r s' => match r with | .ok (.ret u) => u = .notImplemented ∧ CE outer P w H s (fun _ H' => Rh H') .none s' | .ok _ => False | .error _ => False) s
theorem ni_of {P : Program} {w : World} {K : PySem.W.Frag} {mg : Str → Option Value} {base : Heap} {k : Nat} {f : Addr} {name qual : Str} {params : Arguments} {body rest : List Stmt} {scope : Scope} {dV kV doc pm cdv ct oc : Value} {an od : Option Addr}
    {osl : Array (Option Value)} {N ps : List Str} {c : Expr} {p1 p2 p3 : Pos} {R : List V → Hp → (Hp → Prop) → Prop} (lk : K.lookup f = some ⟨oc, od, .func (PySem.W.fnOf name qual params body scope dV kV doc pm an cdv ct), osl⟩) (hcd : PySem.W.codeIn K cdv qual = true) (S : FnScope N ps scope)
    (hbs : body = .If c [.Return (some (.Name "NotImplemented" p1)) p2] [] p3 :: rest) (hb : Binds K (PySem.W.fnOf name qual params body scope dV kV doc pm an cdv ct) ps []) (len : ∀ vs H Rh, R vs H Rh → vs.length = ps.length) (hm : mg "NotImplemented" = none)
    (hgl : ∀ (A : Around) (outer : List Env) (s : Shared) (H : Hp), Gl (cxOf CX0 P w K mg base N qual scope f cdv A outer s H E0).nox "NotImplemented")
    (hc : ∀ (A : Around) (outer : List Env) (s : Shared) (H : Hp) (vs : List V) (Rh : Hp → Prop), Room k (A.deeper (envOfC qual scope s.heap.objs.size f cdv)) → R vs H Rh → ∃ tt, PT (cxOf CX0 P w K mg base N qual scope f cdv A outer s H E0).nox c tt ∧ tt (start N vs) H (fun b H' => b = true ∧ Rh H')) :
    NiOk P w K mg base (k + 1) f R := by
  intro A outer s H us vs Rh hr e0 r hR
  have hl := len _ _ _ hR
  have KX : K.In s.heap := e0.mod.kin.keeps fun b o e => (e0.bs b o e).1
  have lim : s.heap.NoLimit := e0.mod.nolimit.keeps fun b o e => (e0.bs b o e).1
  have hul : us.length = ps.length := by rw [← r.length]; exact hl
  have hbd := hb s us KX (by rw [List.append_nil]; exact hul)
  rw [List.append_nil] at hbd
  have hkind : ∀ y ∈ ps.zip us, scope.names.lookup y.1 = some .local ∨ (scope.names.lookup y.1 = some .cell ∧ ((cellsFrom (s.heap.objs.size + 1) scope.names []).lookup y.1).isSome = true) := fun ⟨n, v⟩ hy => by
    rcases S.par n (List.of_mem_zip hy).1 with q | q
    · exact .inl q
    · exact .inr ⟨q, PySem.W.cellsFrom_some _ _ _ (.inl q)⟩
  refine codeAny_call_function hr.depth (KX _ _ lk) rfl S.co S.gen rfl (PySem.W.codeRec_of KX hcd) (hbd _ _ _ _ ?_)
  refine wpAny_newFunctionEnv_cells S.kind hkind fun env he s1 x => ?_
  subst he
  refine ⟨lim.keeps x.toInCall.keep, codeAny_func ?_⟩
  obtain ⟨tt, ht, hq⟩ := hc A outer s H vs Rh (hr.deeper _) hR
  have I : Inv (cxOf CX0 P w K mg base N qual scope f cdv A outer s H E0) [] (start N vs) H s1 := inv_start S hr.hd e0 hl r x
  rw [hbs]
  have J := I.wish (fun _ _ => False)
  have run : wpAny (model P w) (cxOf CX0 P w K mg base N qual scope f cdv A outer s H E0).nox.A (exec (.If c [.Return (some (.Name "NotImplemented" p1)) p2] [] p3) (cxOf CX0 P w K mg base N qual scope f cdv A outer s H E0).nox.env)
      (fun fl s' => fl = .ret .notImplemented ∧ CE outer P w H s (fun _ H' => Rh H') .none s') (fun _ _ => False) s1 := by
    refine wpAny_If (wpAny_mono (ht.run [] s1 (start N vs) H _ J hq) (fun b s2 hs => ?_) fun _ _ e => e)
    obtain ⟨H1, I1, rfl, q1⟩ := hs
    refine wpAny_execs_cons (wpAny_Return_some (ld_blt I1 (hgl A outer s H) hm (u := .notImplemented) (by decide +kernel) ⟨rfl, .non, H1, I1.os, I1.bare, I1.base, I1.hok, rfl, q1⟩))
  refine wpAny_execs_cons (wpAny_mono run (fun fl s' hs => ?_) fun e s' hs => hs.elim)
  obtain ⟨rfl, h⟩ := hs
  exact ⟨rfl, h⟩
section
variable {X : Cx} {C f : Addr} {k : Nat} {R : List V → Hp → (Hp → Prop) → Prop} {CX : CXT} {fd : FuncData} {ps : List Str} {sp : Sp} {E : XK}
/-- o == text, the own == says NotImplemented -/
def rEqNI (C : Addr) (R : List V → Hp → (Hp → Prop) → Prop) : R2 := fun x y H Q => ∃ a dx fs z, x = .ref a ∧ y = .str z ∧ H a = some (.ins C dx fs) ∧ R [.ref a, .str z] H (fun H' => (∃ dx fs, H' a = some (.ins C dx fs)) ∧ Q (.bl false) H')
theorem op_eqNI (hs : PySem.W.findIn X.K (.ref C) "__eq__" = some (some (.ref f))) (hf : PySem.W.isFn X.K (.ref f) = true) (G : NiOk X.prog X.w X.K X.mg X.base k f R) (hr : Room k X.A) : OpR X (compareOp .Eq) (rEqNI C R) := by
  intro pins s σ H x y v u Q I rx ry h
  obtain ⟨a, dx, fs, z, rfl, rfl, ha, hR⟩ := h
  cases (show v = Value.ref a from rx)
  obtain ⟨t, rfl⟩ := ry
  obtain ⟨mA, J, _⟩ := ins_get I.hok ha
  obtain ⟨od, J, _⟩ := J.look
  show wpAny (model X.prog X.w) X.A (richCompare .Eq (.ref a) (.str z t)) (EP X pins σ Q) X.xe s
  refine rc_ni hr.units0 I.kIn J hs hf (wpAny_call (codeAny_mono (G X.A X.stack s H [.ref a, .str z t] [.ref a, .str z] _ hr I.env0 (.cons rfl (.cons ⟨t, rfl⟩ .nil)) hR) fun r s' hq => ?_))
  cases r with
  | error e => exact False.elim hq
  | ok fl =>
    cases fl with
    | next => exact False.elim hq
    | brk => exact False.elim hq
    | cont => exact False.elim hq
    | ret u =>
      obtain ⟨hu, hq⟩ := hq
      obtain ⟨v, H', I', _, ⟨dx', fs', ha'⟩, q⟩ := I.after hq
      obtain ⟨mA', J', _⟩ := ins_get I'.hok ha'
      obtain ⟨od', J', _⟩ := J'.look
      exact ⟨hu, ⟨_, J'.at_, rfl⟩, .bl false, H', I', rfl, q⟩
/-- o == p, both of the class -/
def rEqOwn (C : Addr) (sp : Sp) (E : XK) : R2 := fun x y H Q => ∃ a dx fs b dy gs, x = .ref a ∧ y = .ref b ∧ H a = some (.ins C dx fs) ∧ H b = some (.ins C dy gs) ∧ sp [.ref a, .ref b] H (fun v H' => ∃ r, v = .bl r ∧ Q (.bl r) H') E
theorem op_eqOwn (F : FnOk X.prog X.w X.K X.mg X.base CX k f fd ps sp) (hs : PySem.W.findIn X.K (.ref C) "__eq__" = some (some (.ref f))) (hf : PySem.W.isFn X.K (.ref f) = true) (hb : Binds X.K fd ps []) (hr : Room k X.A) (hx : Passes CX X E) : OpR X (compareOp .Eq) (rEqOwn C sp E) := by
  intro pins s σ H x y v u Q I rx ry h
  obtain ⟨a, dx, fs, b, dy, gs, rfl, rfl, ha, hb', hsp⟩ := h
  cases (show v = Value.ref a from rx)
  cases (show u = Value.ref b from ry)
  obtain ⟨mA, J, _⟩ := ins_get I.hok ha
  obtain ⟨mB, J', _⟩ := ins_get I.hok hb'
  obtain ⟨od, J, _⟩ := J.look
  obtain ⟨od', J', _⟩ := J'.look
  obtain ⟨m, hF⟩ := I.fr
  show wpAny (model X.prog X.w) X.A (richCompare .Eq (.ref a) (.ref b)) (EP X pins σ Q) X.xe s
  refine PySem.W.cmp_K (op := .Eq) (tb := .ref C) hr.units0 hF I.ok.mod.kin J J'.type (by simp [PySem.W.notFirst]) hs hf ?_
  have hl := F.len _ _ _ _ hsp
  have r2 : Vals [V.ref a, V.ref b] [Value.ref a, Value.ref b] := .cons rfl (.cons rfl .nil)
  refine wpAny_call (codeAny_mono (F.run X.A X.stack s H ⟨[.ref a, .ref b], []⟩ [.ref a, .ref b] [.ref a, .ref b] _ E hr I.env0 (by
    have := hb s [.ref a, .ref b] I.kIn (by simpa using hl)
    simpa using this) r2 hsp) fun r s' hq => ?_)
  cases r with
  | error e => exact hx pins σ H s e s' I hq
  | ok fl =>
    cases fl with
    | ret w =>
      obtain ⟨z, H', I', rz, r, ez, q⟩ := I.after hq
      subst ez
      cases rz
      exact ⟨.bl r, H', I', rfl, q⟩
    | next => exact False.elim hq
    | brk => exact False.elim hq
    | cont => exact False.elim hq
/-- str(o) by an own __str__ -/
def rStrOwn (C : Addr) (sp : Sp) (E : XK) : List V → Hp → VK → Prop := fun xs H Q => ∃ a dx fs, xs = [V.ref a] ∧ H a = some (.ins C dx fs) ∧ sp [.ref a] H (fun v H' => ∃ z, v = .str z ∧ Q (.str z) H') E
theorem call_strOwn (hs : PySem.W.findIn X.K (.ref C) "__str__" = some (some (.ref f))) (hf : PySem.W.isFn X.K (.ref f) = true) (F : FnR X.prog X.w X.K X.mg X.base CX k f sp) (hr : Room (k + 2) X.A) (hx : Passes CX X E) : CallR X (.type "str") (rStrOwn C sp E) := by
  intro pins s σ H xs us Q I r h
  obtain ⟨a, dx, fs, rfl, ha, q⟩ := h
  obtain ⟨u, rfl, ru⟩ := r.one
  cases (show u = Value.ref a from ru)
  obtain ⟨mA, J, _⟩ := ins_get I.hok ha
  obtain ⟨od, J, _⟩ := J.look
  have hr2 : Room k X.A.in1.in1 := (show Room (k + 1) X.A.in1 from Room.in1 hr).in1
  refine PySem.W.kso_call hr2.units0 I.kIn J hs hf (wpAny_mono (wpAny_call (SlX.run_at (us := [.ref a]) (ws := [.ref a]) F hr2 I.env0.in1.in1 hx I (.cons rfl .nil) q)) (fun w s' z => ?_) fun _ _ x => x)
  obtain ⟨z', H', I', rz, i, ei, qz⟩ := z
  subst ei
  obtain ⟨t, e⟩ := (show ∃ t, w = Value.str i t from rz)
  cases e
  exact ⟨.str i, H', I', ⟨t, rfl⟩, qz⟩
end
end R7

set_option maxRecDepth 100000
set_option maxHeartbeats 4000000
namespace K10
open PySem PySem.Spec PyProof.Rows L2 PySem.W PySem.Calls
/-! ### heaps -/
theorem same_new {H : Hp} {p : Addr} {o : HO} (h : H p = none) : Same H (upd H p o) := fun b x e => by
  rw [upd_ne (ne_of_none e h)]; exact e
theorem same_at {H H' : Hp} {o : Addr} {x : HO} (s : Same H H') (h : H o = none) : Same H (upd H' o x) := fun b z e => by
  rw [upd_ne (ne_of_none e h)]; exact s b z e
theorem same_new2 {H H' : Hp} {p : Addr} {o : HO} (s : Same H H') (h : H' p = none) : Same H (upd H' p o) := fun b z e => by
  have e2 := s b z e
  rw [upd_ne (ne_of_none e2 h)]; exact e2
theorem map_snoc (rs : List Int) (r : Int) : rs.map V.int ++ [V.int r] = (rs ++ [r]).map V.int := by rw [List.map_append]; rfl
theorem map_snocS (rs : List Str) (r : Str) : rs.map V.str ++ [V.str r] = (rs ++ [r]).map V.str := by rw [List.map_append]; rfl
/-! ### texts as lists -/
abbrev tl (z : Str) : List Nat := z.cps.toList
theorem tl_len (z : Str) : (tl z).length = z.length := by simp [tl, Str.length]
theorem str_eq {a b : Str} (h : tl a = tl b) : a = b := by
  obtain ⟨x⟩ := a; obtain ⟨y⟩ := b
  show (⟨x⟩ : Str) = ⟨y⟩
  congr 1
  apply Array.toList_inj.mp; simpa [tl] using h
theorem str_of {z : Str} {x : Nat} (h : tl z = [x]) : z = ⟨#[x]⟩ := str_eq h
theorem str_mk (z : Str) : z = ⟨(tl z).toArray⟩ := str_eq rfl
theorem tl_add (a b : Str) : tl (a ++ b) = tl a ++ tl b := by
  show (a.cps ++ b.cps).toList = _
  rw [Array.toList_append]
theorem len_add (a b : Str) : (a ++ b).length = a.length + b.length := by
  show (a.cps ++ b.cps).size = _
  rw [Array.size_append]; rfl
theorem lt_one (x y : Nat) : decide ([x] < [y]) = !decide (y ≤ x) := by
  have e : decide ([x] < [y]) = decide (x < y) := by simp [List.cons_lt_cons_iff]
  rw [e]
  by_cases h : y ≤ x
  · rw [decide_eq_true h, decide_eq_false (by omega)]; rfl
  · rw [decide_eq_false h, decide_eq_true (by omega)]; rfl
theorem eqS (a b : Nat) : decide (V.str ⟨#[a]⟩ = V.str ⟨#[b]⟩) = decide (a = b) := by
  refine decide_eq_decide.mpr ⟨fun h => ?_, fun h => by rw [h]⟩
  injection h with h1
  have h2 := congrArg tl h1
  simpa [tl] using h2
theorem eqT (a b : Str) : decide (V.str a = V.str b) = decide (tl a = tl b) := by
  refine decide_eq_decide.mpr ⟨fun h => ?_, fun h => by rw [str_eq h]⟩
  injection h with h1
  rw [h1]
theorem eqI (a b : Int) : decide (V.int a = V.int b) = decide (a = b) := by
  refine decide_eq_decide.mpr ⟨fun h => ?_, fun h => by rw [h]⟩
  injection h
theorem cut_tl (z : Str) (a b : Nat) : tl (cutS z (some (a : Int)) (some (b : Int))) = ((tl z).drop (min a z.length)).take (min b z.length - min a z.length) := by
  unfold cutS tl
  rw [HT.sIx_nat, HT.sIx_nat]
theorem cut_to (z : Str) (b : Nat) : tl (cutS z none (some (b : Int))) = (tl z).take b := by
  unfold cutS tl
  rw [HT.sIx_none, HT.sIx_nat]
  show (z.cps.toList.drop 0).take (min b z.length - 0) = _
  rw [List.drop_zero, Nat.sub_zero]
  by_cases h : b ≤ z.length
  · rw [Nat.min_eq_left h]
  · rw [Nat.min_eq_right (by omega), List.take_of_length_le (by rw [tl_len]; exact Nat.le_refl _), List.take_of_length_le (by rw [tl_len]; omega)]
theorem cut_from (z : Str) (a : Nat) : tl (cutS z (some (a : Int)) none) = (tl z).drop a := by
  unfold cutS tl
  rw [HT.sIx_none, HT.sIx_nat]
  show (z.cps.toList.drop (min a z.length)).take (z.length - min a z.length) = _
  by_cases h : a ≤ z.length
  · rw [Nat.min_eq_left h, List.take_of_length_le (by rw [List.length_drop, tl_len]; exact Nat.le_refl _)]
  · rw [Nat.min_eq_right (by omega), Nat.sub_self, List.take_zero, List.drop_of_length_le (by rw [tl_len]; omega)]
theorem joinL_flat : ∀ ls : List (List Nat), TL.joinL [] ls = ls.flatten
  | [] => rfl
  | [p] => by simp [TL.joinL]
  | p :: q :: r => by
    have h := joinL_flat (q :: r)
    simp only [TL.joinL, List.nil_append, h, List.flatten_cons]
theorem tl_joined {e : Str} (he : tl e = []) (ys : List Str) : tl (Txt.join e ys) = (ys.map tl).flatten := by
  have h1 : TL.tl (Txt.join e ys) = TL.joinL (TL.tl e) (ys.map TL.tl) := by rw [TL.join_eq, TL.tl_join]
  have h2 : TL.tl e = [] := he
  rw [h2, joinL_flat] at h1
  exact h1
/-- texts of one sign each, joined -/
theorem join_ones (cs : List Nat) : tl (Txt.join (Str.ofString "") (cs.map fun c => (⟨#[c]⟩ : Str))) = cs := by
  rw [tl_joined (by decide +kernel), List.map_map]
  induction cs with
  | nil => rfl
  | cons c cs ih => simp only [List.map_cons, List.flatten_cons, ih]; rfl
theorem sum_ones (cs : List Nat) : ((cs.map fun c => (⟨#[c]⟩ : Str)).map (·.length)).sum = cs.length := by
  induction cs with
  | nil => rfl
  | cons c cs ih => simp only [List.map_cons, List.sum_cons, ih, List.length_cons]; show 1 + _ = _; omega
/-! ### in the heap -/
/-- tuples stay -/
def SameT (H H' : Hp) : Prop := ∀ a xs, H a = some (.tup xs) → H' a = some (.tup xs)
theorem SameT.refl (H : Hp) : SameT H H := fun _ _ h => h
theorem SameT.trans {H H1 H2 : Hp} (a : SameT H H1) (b : SameT H1 H2) : SameT H H2 := fun x xs h => b x xs (a x xs h)
theorem SameT.new {H : Hp} {p : Addr} {o : HO} (h : H p = none) : SameT H (upd H p o) := fun a xs e => by
  rw [upd_ne (ne_of_none e h)]; exact e
theorem SameT.lst {H : Hp} {p : Addr} {o : HO} {ys : List V} (h : H p = some (.lst ys)) : SameT H (upd H p o) := fun a xs e => by
  rw [upd_ne (ne_of e h (by intro z; cases z))]; exact e
/-! the text -/
def topS (i : Nat) : Stmt := PySem.Challenge.pw_laidforall_k10_patterns_read.main.body.getD i (.Pass ⟨0, 0, 0, 0⟩)
abbrev sBPInit : Stmt := inClass (topS 3) 0
abbrev sLetter : Stmt := topS 8
abbrev sNameEnd : Stmt := topS 9
abbrev sIsName : Stmt := topS 10
abbrev sTest : Stmt := topS 21
abbrev sTests : Stmt := topS 22
abbrev sPInit : Stmt := inClass (topS 24) 0
abbrev sAsked : Stmt := inClass (topS 24) 3
abbrev sNamed : Stmt := inClass (topS 24) 4
abbrev sPLen : Stmt := inClass (topS 24) 5
abbrev sPStr : Stmt := inClass (topS 24) 6
abbrev sPEq : Stmt := inClass (topS 24) 7
abbrev sCell : Stmt := topS 27
abbrev sRow : Stmt := topS 28
abbrev sNames : Stmt := topS 29
abbrev sNumber : Stmt := topS 30
abbrev sDrawn : Stmt := topS 31
abbrev sOdd : Stmt := topS 32
abbrev sBent : Stmt := topS 33
abbrev sLName : Stmt := topS 34
abbrev sRead : Stmt := topS 35
abbrev sRefused : Stmt := topS 36
abbrev sLet : Stmt := topS 37
abbrev sLaw : Stmt := topS 38
structure Blt (mg : Str → Option Value) : Prop where
  len : mg "len" = none
  int : mg "int" = none
  str : mg "str" = none
  bool : mg "bool" = none
  tuple : mg "tuple" = none
  range : mg "range" = none
  isi : mg "isinstance" = none
  ve : mg "ValueError" = none
structure Cst (mg : Str → Option Value) (t1 t2 t3 t4 t5 t6 : Tok) : Prop where
  g_LONGEST_NAME : mg "LONGEST_NAME" = some (.int 8 t1)
  g_MOST_TESTS : mg "MOST_TESTS" = some (.int 4 t2)
  g_ANY_KIND : mg "ANY_KIND" = some (.str (Str.ofString "*") t3)
  g_INSIDE : mg "INSIDE" = some (.str (Str.ofString "") t4)
  g_CHILD : mg "CHILD" = some (.str (Str.ofString ">") t5)
  g_BEHIND : mg "BEHIND" = some (.str (Str.ofString "+") t6)
theorem passN {X : Cx} : Passes (L2.CX X.prog X.w) X E0 := fun _ _ _ _ _ _ _ h => by
  unfold L2.CX at h
  obtain ⟨a, B, H', cls, d, h1, h2, h3, h4, h⟩ := h
  simp only [E0, and_false] at h
/-! ### patterns -/
def isL (x : Nat) : Bool := decide (97 ≤ x) && decide (x ≤ 122)
def Name (z : Str) : Prop := 1 ≤ (tl z).length ∧ (tl z).length ≤ 8 ∧ ∀ c ∈ tl z, isL c = true
def Mark (z : Str) : Prop := tl z = [] ∨ Name z
abbrev Tst := Str × Str
def starS : Str := Str.ofString "*"
theorem tl_star : tl starS = [42] := by decide +kernel
def GoodT (x : Tst) : Prop := (x.1 = starS ∨ Name x.1) ∧ Mark x.2
def dotS : Str := Str.ofString "."
theorem tl_dot : tl dotS = [46] := by decide +kernel
/-- a test as it is written -/
def wordL (x : Tst) : List Nat := tl x.1 ++ (if tl x.2 = [] then [] else 46 :: tl x.2)
inductive Tk where
  | lnk (l : Nat)
  | tst (x : Tst)
def symL (l : Nat) : List Nat := if l = 1 then [62] else [43]
def encT : Tk → List Nat
  | .lnk l => symL l
  | .tst x => wordL x
abbrev Ps := List Tst × List Nat × Nat
def stp : Ps → Tk → Ps
  | (ts, ls, _), .lnk l => (ts, ls, l)
  | (ts, ls, p), .tst x => (ts ++ [x], if ts = [] then ls else ls ++ [p], 0)
def okTk : Ps → List Tk → Prop
  | _, [] => True
  | s, .lnk l :: r => s.1 ≠ [] ∧ s.2.2 = 0 ∧ (l = 1 ∨ l = 2) ∧ okTk (stp s (.lnk l)) r
  | s, .tst x :: r => GoodT x ∧ okTk (stp s (.tst x)) r
def tail (rs : List (Nat × Tst)) : List Tk := rs.flatMap fun r => if r.1 = 0 then [.tst r.2] else [.lnk r.1, .tst r.2]
def toks (x : Tst) (rs : List (Nat × Tst)) : List Tk := .tst x :: tail rs
theorem stp_tst {ts : List Tst} {ls : List Nat} {p : Nat} {x : Tst} (h : ts ≠ []) : stp (ts, ls, p) (.tst x) = (ts ++ [x], ls ++ [p], 0) := by simp [stp, h]
theorem tail_ok : ∀ (rs : List (Nat × Tst)) (ts : List Tst) (ls : List Nat), ts ≠ [] → (∀ r ∈ rs, r.1 ≤ 2 ∧ GoodT r.2) → okTk (ts, ls, 0) (tail rs) ∧ (tail rs).foldl stp (ts, ls, 0) = (ts ++ rs.map (·.2), ls ++ rs.map (·.1), 0)
  | [], ts, ls, _, _ => by simp [tail, okTk]
  | (l, x) :: rs, ts, ls, hne, h => by
    obtain ⟨h1, h2⟩ := h (l, x) List.mem_cons_self
    obtain ⟨i1, i2⟩ := tail_ok rs (ts ++ [x]) (ls ++ [l]) (by simp) fun r hr => h r (List.mem_cons_of_mem _ hr)
    by_cases hl : l = 0
    · subst hl
      have e : tail ((0, x) :: rs) = .tst x :: tail rs := by simp [tail]
      rw [e]
      refine ⟨⟨h2, ?_⟩, ?_⟩
      · show okTk (stp (ts, ls, 0) (.tst x)) (tail rs)
        rw [stp_tst hne]; exact i1
      · show (tail rs).foldl stp (stp (ts, ls, 0) (.tst x)) = _
        rw [stp_tst hne, i2]; simp
    · have e : tail ((l, x) :: rs) = .lnk l :: .tst x :: tail rs := by simp [tail, hl]
      rw [e]
      have h1' : l ≤ 2 := h1
      refine ⟨⟨hne, rfl, by omega, h2, ?_⟩, ?_⟩
      · show okTk (stp (ts, ls, l) (.tst x)) (tail rs)
        rw [stp_tst hne]; exact i1
      · show (tail rs).foldl stp (stp (ts, ls, l) (.tst x)) = _
        rw [stp_tst hne, i2]; simp
theorem toks_ok {x : Tst} {rs : List (Nat × Tst)} (hx : GoodT x) (h : ∀ r ∈ rs, r.1 ≤ 2 ∧ GoodT r.2) : okTk ([], [], 0) (toks x rs) ∧ (toks x rs).foldl stp ([], [], 0) = (x :: rs.map (·.2), rs.map (·.1), 0) := by
  obtain ⟨i1, i2⟩ := tail_ok rs [x] [] (by simp) h
  refine ⟨⟨hx, i1⟩, ?_⟩
  show (tail rs).foldl stp ([] ++ [x], [], 0) = _
  rw [List.nil_append, i2]; simp
/-- the text of a pattern -/
def sepL (l : Nat) : List Nat := if l = 0 then [32] else 32 :: (symL l ++ [32])
def textL (x : Tst) (rs : List (Nat × Tst)) : List Nat := wordL x ++ rs.flatMap fun r => sepL r.1 ++ wordL r.2
theorem joinL_cons (w : List Nat) : ∀ ws : List (List Nat), TL.joinL [32] (w :: ws) = w ++ ws.flatMap (fun v => 32 :: v)
  | [] => by simp [TL.joinL]
  | v :: ws => by
    simp only [TL.joinL, joinL_cons v ws, List.flatMap_cons, List.cons_append, List.nil_append]
theorem join_toks (x : Tst) (rs : List (Nat × Tst)) : TL.joinL [32] ((toks x rs).map encT) = textL x rs := by
  show TL.joinL [32] (wordL x :: (tail rs).map encT) = _
  rw [joinL_cons]
  unfold textL
  congr 1
  induction rs with
  | nil => rfl
  | cons r rs ih =>
    obtain ⟨l, y⟩ := r
    by_cases hl : l = 0
    · subst hl
      have e : tail ((0, y) :: rs) = .tst y :: tail rs := by simp [tail]
      rw [e, List.map_cons, List.flatMap_cons, ih]
      simp [sepL, encT]
    · have e : tail ((l, y) :: rs) = .lnk l :: .tst y :: tail rs := by simp [tail, hl]
      rw [e, List.map_cons, List.map_cons, List.flatMap_cons, List.flatMap_cons, ih]
      simp [sepL, encT, hl]
theorem letter_free {l : List Nat} (h : ∀ c ∈ l, isL c = true) {s : Nat} (hs : s < 97) : s ∉ l := fun hm => by
  have := h s hm
  simp [isL] at this; omega
theorem kind_free {x : Tst} (h : GoodT x) {s : Nat} (hs : s < 97) (h42 : s ≠ 42) : s ∉ tl x.1 := by
  rcases h.1 with h1 | h1
  · rw [h1, tl_star]; simp; exact h42
  · exact letter_free h1.2.2 hs
theorem mark_free {z : Str} (h : Mark z) {s : Nat} (hs : s < 97) : s ∉ tl z := by
  rcases h with h1 | h1
  · rw [h1]; simp
  · exact letter_free h1.2.2 hs
theorem word_free {x : Tst} (h : GoodT x) {s : Nat} (hs : s < 97) (h42 : s ≠ 42) (h46 : s ≠ 46) : s ∉ wordL x := by
  unfold wordL
  intro hm
  rcases List.mem_append.mp hm with h1 | h1
  · exact kind_free h hs h42 h1
  · by_cases he : tl x.2 = []
    · rw [if_pos he] at h1; simp at h1
    · rw [if_neg he] at h1
      rcases List.mem_cons.mp h1 with h2 | h2
      · exact h46 h2
      · exact mark_free h.2 hs h2
theorem kind_len {x : Tst} (h : GoodT x) : 1 ≤ (tl x.1).length ∧ (tl x.1).length ≤ 8 := by
  rcases h.1 with h1 | h1
  · rw [h1, tl_star]; decide
  · exact ⟨h1.1, h1.2.1⟩
theorem mark_len {z : Str} (h : Mark z) : (tl z).length ≤ 8 := by
  rcases h with h1 | h1
  · rw [h1]; decide
  · exact h1.2.1
theorem word_len {x : Tst} (h : GoodT x) : 1 ≤ (wordL x).length ∧ (wordL x).length ≤ 17 := by
  have h1 := kind_len h; have h2 := mark_len h.2
  unfold wordL
  rw [List.length_append]
  by_cases he : tl x.2 = []
  · rw [if_pos he, List.length_nil]; omega
  · rw [if_neg he, List.length_cons]; omega
theorem okTk_mem : ∀ {tk : List Tk} {s : Ps}, okTk s tk → ∀ t ∈ tk, (∃ l, t = .lnk l) ∨ ∃ x, t = .tst x ∧ GoodT x
  | [], _, _, t, h => by simp at h
  | .lnk l :: r, s, h, t, ht => by
    rcases List.mem_cons.mp ht with rfl | h1
    · exact .inl ⟨l, rfl⟩
    · exact okTk_mem h.2.2.2 t h1
  | .tst x :: r, s, h, t, ht => by
    rcases List.mem_cons.mp ht with rfl | h1
    · exact .inr ⟨x, rfl, h.1⟩
    · exact okTk_mem h.2 t h1
theorem enc_free {tk : List Tk} {s : Ps} (h : okTk s tk) : ∀ p ∈ tk.map encT, (32 : Nat) ∉ p := by
  intro p hp
  obtain ⟨t, ht, rfl⟩ := List.mem_map.mp hp
  rcases okTk_mem h t ht with ⟨l, rfl⟩ | ⟨x, rfl, hx⟩
  · show 32 ∉ symL l
    unfold symL; split <;> decide
  · exact word_free hx (by decide) (by decide) (by decide)
theorem enc_len {tk : List Tk} {s : Ps} (h : okTk s tk) : ∀ p ∈ tk.map encT, p.length ≤ 17 := by
  intro p hp
  obtain ⟨t, ht, rfl⟩ := List.mem_map.mp hp
  rcases okTk_mem h t ht with ⟨l, rfl⟩ | ⟨x, rfl, hx⟩
  · show (symL l).length ≤ 17
    unfold symL; split <;> decide
  · exact (word_len hx).2
def blankS : Str := Str.ofString " "
theorem tl_blank : tl blankS = [32] := by decide +kernel
theorem split_toks {z : Str} {tk : List Tk} {s : Ps} (hz : tl z = TL.joinL [32] (tk.map encT)) (hne : tk ≠ []) (h : okTk s tk) : (Txt.split z blankS).map tl = tk.map encT := by
  have h1 := TL.split_spl z blankS (by decide +kernel) (TL.kind_ok (by decide +kernel))
  rw [show TL.tl blankS = [32] from tl_blank, show TL.tl z = TL.joinL [32] (tk.map encT) from hz, TL.spl_join (by simpa using hne) (enc_free h)] at h1
  exact h1

/-! ### any text, read -/
def nameB (l : List Nat) : Bool := decide (1 ≤ l.length) && decide (l.length ≤ 8) && l.all isL
theorem nameB_iff {z : Str} : nameB (tl z) = true ↔ Name z := by
  unfold nameB Name
  simp only [Bool.and_eq_true, decide_eq_true_eq, List.all_eq_true, and_assoc]
def kL (l : List Nat) : List Nat := l.takeWhile (fun c => decide (c ≠ 46))
def mL (l : List Nat) : List Nat := (l.dropWhile (fun c => decide (c ≠ 46))).drop 1
def dB (l : List Nat) : Bool := decide (46 ∈ l)
def kS (z : Str) : Str := ⟨(kL (tl z)).toArray⟩
def mS (z : Str) : Str := ⟨(mL (tl z)).toArray⟩
theorem tl_kS (z : Str) : tl (kS z) = kL (tl z) := by simp [kS, tl]
theorem tl_mS (z : Str) : tl (mS z) = mL (tl z) := by simp [mS, tl]
theorem kL_free (l : List Nat) : 46 ∉ kL l := by
  induction l with
  | nil => simp [kL]
  | cons c l ih =>
    unfold kL at ih ⊢
    rw [List.takeWhile_cons]
    split
    · rename_i h
      intro hm
      rcases List.mem_cons.mp hm with h1 | h1
      · rw [← h1] at h; simp at h
      · exact ih h1
    · simp
theorem cut_nodot {l : List Nat} (h : dB l = false) : kL l = l ∧ mL l = [] := by
  have h' : 46 ∉ l := of_decide_eq_false h
  unfold kL mL
  induction l with
  | nil => exact ⟨rfl, rfl⟩
  | cons c l ih =>
    have hc : c ≠ 46 := fun e => h' (by rw [e]; exact List.mem_cons_self)
    have hl : 46 ∉ l := fun e => h' (List.mem_cons_of_mem _ e)
    obtain ⟨i1, i2⟩ := ih (decide_eq_false hl) hl
    rw [List.takeWhile_cons, List.dropWhile_cons, if_pos (decide_eq_true hc), if_pos (decide_eq_true hc)]
    exact ⟨by rw [i1], i2⟩
theorem cut_dot {l : List Nat} (h : dB l = true) : l = kL l ++ 46 :: mL l := by
  have h' : 46 ∈ l := of_decide_eq_true h
  unfold kL mL
  induction l with
  | nil => simp at h'
  | cons c l ih =>
    by_cases hc : c = 46
    · subst hc; simp
    · have hl : 46 ∈ l := by
        rcases List.mem_cons.mp h' with e | e
        · exact absurd e.symm hc
        · exact e
      have i := ih (decide_eq_true hl) hl
      rw [List.takeWhile_cons, List.dropWhile_cons, if_pos (decide_eq_true hc), if_pos (decide_eq_true hc), List.cons_append, ← i]
/-- whether a word is a test -/
def goodB (z : Str) : Bool := (decide (kS z = starS) || nameB (tl (kS z))) && (!dB (tl z) || nameB (tl (mS z)))
def testOf (z : Str) : Option Tst := if goodB z = true then some (kS z, mS z) else none
theorem kS_nodot {z : Str} (h : dB (tl z) = false) : kS z = z ∧ mS z = Str.empty := by
  obtain ⟨a, b⟩ := cut_nodot h
  exact ⟨str_eq (by rw [tl_kS, a]), str_eq (by rw [tl_mS, b]; rfl)⟩
theorem kS_dot {z : Str} (h : dB (tl z) = true) : z = kS z ++ dotS ++ mS z := by
  refine str_eq ?_
  rw [tl_add, tl_add, tl_kS, tl_mS, tl_dot]
  have := cut_dot h
  rw [List.append_assoc]; exact this
theorem good_mark {z : Str} (h : goodB z = true) : dB (tl z) = !decide (tl (mS z) = []) := by
  unfold goodB at h
  rw [Bool.and_eq_true] at h
  cases hd : dB (tl z) with
  | false =>
    rw [(kS_nodot hd).2]; rfl
  | true =>
    rw [hd] at h
    have h2 : nameB (tl (mS z)) = true := by simpa using h.2
    have h3 := (nameB_iff.mp h2).1
    rw [decide_eq_false (fun e => by rw [e] at h3; simp at h3)]; rfl
def gtS : Str := Str.ofString ">"
def plS : Str := Str.ofString "+"
def lnkB (w : Str) : Bool := decide (w = gtS) || decide (w = plS)
abbrev Rd := Option (List Tst × Bool)
def stepR : Rd → Str → Rd
  | none, _ => none
  | some (ts, lk), w => if (lk && lnkB w) = true then some (ts, false) else match testOf w with | none => none | some x => some (ts ++ [x], true)
def runR (ws : List Str) : Rd := ws.foldl stepR (some ([], false))
theorem fold_none (ws : List Str) : ws.foldl stepR none = none := by
  induction ws with
  | nil => rfl
  | cons w ws ih => exact ih
theorem run_take {ws : List Str} {n : Nat} {w : Str} (h : ws[n]? = some w) : runR (ws.take (n + 1)) = stepR (runR (ws.take n)) w := by
  unfold runR
  rw [List.take_add_one, h, List.foldl_append]; rfl
theorem run_none {ws : List Str} {n : Nat} (h : runR (ws.take n) = none) : runR ws = none := by
  unfold runR at h ⊢
  rw [← List.take_append_drop n ws, List.foldl_append, h, fold_none]
def rdT (ws : List Str) : Option (List Tst) := match runR ws with
  | some (ts, true) => if ts.length ≤ 4 then some ts else none
  | _ => none
theorem step_len {s : Rd} {w : Str} {ts : List Tst} {lk : Bool} (h : stepR s w = some (ts, lk)) : ∃ ts' lk', s = some (ts', lk') ∧ ts.length ≤ ts'.length + 1 ∧ (ts' ≠ [] → ts ≠ []) ∧ (ts' = [] → lk' = false → ts ≠ []) := by
  cases s with
  | none => cases h
  | some p =>
    obtain ⟨ts', lk'⟩ := p
    simp only [stepR] at h
    refine ⟨ts', lk', rfl, ?_⟩
    split at h
    · rename_i hk
      cases h
      rw [Bool.and_eq_true] at hk
      exact ⟨Nat.le_succ _, fun h => h, fun _ h => by rw [hk.1] at h; cases h⟩
    · split at h
      · cases h
      · cases h
        exact ⟨by rw [List.length_append]; exact Nat.le_refl _, fun _ => by simp, fun _ _ => by simp⟩
end K10

set_option maxRecDepth 100000
set_option maxHeartbeats 4000000
namespace K10
open PySem PySem.Spec PyProof.Rows L2
theorem lt_nil (x : Nat) : decide (([] : List Nat) < [x]) = true := by simp
theorem cut_one (z : Str) {A R : List Nat} (h : tl z = A ++ R) : tl (cutS z (some (A.length : Int)) (some ((A.length : Int) + 1))) = R.take 1 := by
  have hl := tl_len z
  rw [h, List.length_append] at hl
  rw [show ((A.length : Int) + 1) = ((A.length + 1 : Nat) : Int) by omega, cut_tl, h, Nat.min_eq_left (show A.length ≤ z.length by omega), List.drop_left]
  cases R with
  | nil => simp
  | cons c r => simp only [List.length_cons] at hl; rw [Nat.min_eq_left (by omega), show A.length + 1 - A.length = 1 by omega]

theorem share {G E : Prop} (hE : E) (h : E → G) : G := h hE
theorem eqE (z : Str) : decide (V.str z = V.str (Str.ofString "")) = decide (tl z = []) := by
  rw [eqT, show tl (Str.ofString "") = [] by decide +kernel]
section
variable {P : Program} {w : World} {K : PySem.W.Frag} {mg : Str → Option Value} {base : Heap} {t1 t2 t3 t4 t5 t6 : Tok}
/-! ### is_letter -/
def spLet (f : Nat → Bool) : Sp := fun vs H Q _ => ∃ (c : Str), vs = [.str c] ∧ ((tl c = [] ∧ Q (.bl false) H) ∨ ∃ x, tl c = [x] ∧ Q (.bl (f x)) H)
theorem scLetter : FnScope ["char"] ["char"] (defScope sLetter) := ⟨rfl, rfl, rfl, by decide +kernel, rfl, by decide +kernel, by decide +kernel⟩
theorem ok_letter {f : Addr} {fd : FuncData} (F : Fun K "is_letter" "is_letter" sLetter f fd) : FnOk P w K mg base CX0 1 f fd ["char"] (spLet isL) := by
  refine F.ok scLetter (fun vs H Q E h => ?_) (fun cdv A outer s H vs Q E hr h => ?_)
  · obtain ⟨c, rfl, _⟩ := h; rfl
  · obtain ⟨c, rfl, h⟩ := h
    refine ⟨_, pss_one (ps_ret (pe_chain op_le_str op_le_str pe_str (pv 0) pe_str)), ?_⟩
    rcases h with ⟨hc, q⟩ | ⟨x, hc, q⟩
    · refine ⟨.str c, rfl, _, c, rfl, rfl, _, rfl, ?_⟩
      have e : (!decide (c.cps.toList < (Str.ofString "a").cps.toList)) = false := by rw [show c.cps.toList = [] from hc]; decide
      rw [e]; exact iteF q
    · refine ⟨.str c, rfl, _, c, rfl, rfl, _, rfl, ?_⟩
      have e : (!decide (c.cps.toList < (Str.ofString "a").cps.toList)) = decide (97 ≤ x) := by rw [show c.cps.toList = [x] from hc, show (Str.ofString "a").cps.toList = [97] by decide +kernel, lt_one, Bool.not_not]
      have e2 : (!decide ((Str.ofString "z").cps.toList < c.cps.toList)) = decide (x ≤ 122) := by rw [show c.cps.toList = [x] from hc, show (Str.ofString "z").cps.toList = [122] by decide +kernel, lt_one, Bool.not_not]
      rw [e]
      refine ite2 (fun h => ?_) (fun h => ?_)
      · refine ⟨c, _, rfl, rfl, ?_⟩
        rw [e2]; unfold isL at q; rw [h, Bool.true_and] at q; exact q
      · have h' : decide (97 ≤ x) = false := by simpa using h
        unfold isL at q; rw [h', Bool.false_and] at q; exact q
/-! ### name_end -/
/-- what stands at the end of a run -/
def Stops (f : Nat → Bool) (R : List Nat) : Prop := ∀ c r, R = c :: r → f c = false
def spEnd : Sp := fun vs H Q _ => ∃ (z : Str) (A N R : List Nat), vs = [.str z, .int (A.length : Int)] ∧ tl z = A ++ (N ++ R) ∧ (∀ c ∈ N, isL c = true) ∧ N.length ≤ 8 ∧ (N.length = 8 ∨ Stops isL R) ∧ z.length ≤ 1000000 ∧ Q (.int ((A.length + N.length : Nat) : Int)) H
theorem scEnd : FnScope ["text", "start", "end"] ["text", "start"] (defScope sNameEnd) := ⟨rfl, rfl, rfl, by decide +kernel, rfl, by decide +kernel, by decide +kernel⟩
theorem ok_end {f f_is_letter : Addr} {fd fd_is_letter : FuncData} (Z : Cst mg t1 t2 t3 t4 t5 t6) (F : Fun K "name_end" "name_end" sNameEnd f fd)
    (F_is_letter : Fun K "is_letter" "is_letter" sLetter f_is_letter fd_is_letter) (b_is_letter : Binds K fd_is_letter ["char"] []) (g_is_letter : mg "is_letter" = some (.ref f_is_letter)) :
    FnOk P w K mg base CX0 2 f fd ["text", "start"] spEnd := by
  have G_is_letter : FnOk P w K mg base CX0 1 f_is_letter fd_is_letter ["char"] (spLet isL) := ok_letter F_is_letter
  refine F.ok scEnd (fun vs H Q E h => ?_) (fun cdv A0 outer s H vs Q E hr h => ?_)
  · obtain ⟨z, A, N, R, rfl, _⟩ := h; rfl
  · obtain ⟨z, A, N, R, rfl, hz, hN, h8, hR, hl, q⟩ := h
    refine ⟨_, (pss_cons (ps_set (i := 2) scEnd.nd rfl (.inl rfl) (pv 1))
      (pss_cons (ps_while (PassesOwn.never) (PW.pt (pw_and (pt_cmpR op_lt (pe_op op_sub (pv 2) (pv 1)) (pe_glob (v := .int 8) (by rfl) Z.g_LONGEST_NAME ⟨_, rfl⟩) (nomark _)) (pw_and1 (pt_val (pe_call G_is_letter hr (by rfl) g_is_letter F_is_letter.kp b_is_letter .nil pass0 (pa_cons (pe_slice sl_str (pv 0) (po_some (pv 2)) (po_some (pe_op op_add (pv 2) pe_int))) pa_nil))))))
      (pss_one (ps_set (i := 2) scEnd.nd rfl (.inl rfl) (pe_op op_add (pv 2) pe_int))))
      (pss_one (ps_ret (pv 2))))), ?_⟩
    have hzl := tl_len z
    have hsl : z.length ≤ sizeLine := Nat.le_trans hl (by decide)
    refine ⟨.int (A.length : Int), rfl, ?_⟩
    refine ⟨fun m σ H' => ∃ i, m = N.length - i ∧ i ≤ N.length ∧ σ = [some (.str z), some (.int (A.length : Int)), some (.int ((A.length + i : Nat) : Int))] ∧ H' = H, ⟨_, 0, rfl, Nat.zero_le _, rfl, rfl⟩, ?_⟩
    rintro m σ H' ⟨i, rfl, hi, rfl, rfl⟩
    refine ⟨.int ((A.length + i : Nat) : Int), rfl, .int (A.length : Int), rfl, _, _, rfl, rfl, _, 8, rfl, rfl, _, rfl, ite2 (fun h => ?_) (fun h => iteF ?_)⟩
    · have hi8 : i < 8 := by
        have h1 := of_decide_eq_true h; omega
      have hsp : tl z = (A ++ N.take i) ++ (N.drop i ++ R) := by rw [hz, List.append_assoc, ← List.append_assoc (N.take i), List.take_append_drop]
      have hal : (A ++ N.take i).length = A.length + i := by rw [List.length_append, List.length_take, Nat.min_eq_left hi]
      have hc := cut_one z hsp
      rw [hal] at hc
      refine ⟨.str z, rfl, .int ((A.length + i : Nat) : Int), rfl, _, rfl, .int ((A.length + i : Nat) : Int), rfl, _, 1, rfl, rfl, _, rfl, z, rfl, hsl, _, rfl, ?_⟩
      by_cases hin : i < N.length
      · have hd : N.drop i = (N[i]'hin) :: N.drop (i + 1) := List.drop_eq_getElem_cons hin
        rw [hd] at hc
        refine .inr ⟨_, hc, _, rfl, ?_⟩
        rw [hN _ (List.getElem_mem hin)]
        refine iteT ⟨fun σ' H'' => σ' = [some (.str z), some (.int (A.length : Int)), some (.int ((A.length + (i + 1) : Nat) : Int))] ∧ H'' = H', fun σ' H'' ⟨e1, e2⟩ => ⟨N.length - (i + 1), by omega, i + 1, rfl, hin, e1, e2⟩, ?_⟩
        exact ⟨.int ((A.length + i : Nat) : Int), rfl, _, 1, rfl, rfl, by rw [show ((A.length + (i + 1) : Nat) : Int) = ((A.length + i : Nat) : Int) + 1 by omega]; rfl, rfl⟩
      · obtain rfl : i = N.length := by omega
        have hst : Stops isL R := by rcases hR with h | h; (omega); (exact h)
        rw [List.drop_length, List.nil_append] at hc
        cases R with
        | nil => exact .inl ⟨hc, _, rfl, iteF ⟨_, rfl, q⟩⟩
        | cons c r =>
          refine .inr ⟨c, hc, _, rfl, ?_⟩
          rw [hst c r rfl]
          exact iteF ⟨_, rfl, q⟩
    · have hi8 : i = N.length := by
        have h1 : ¬ (((A.length + i : Nat) : Int) - (A.length : Int) < 8) := fun z => h (decide_eq_true z)
        omega
      subst hi8
      exact ⟨_, rfl, q⟩

/-! ### is_name -/
theorem end_split (l : List Nat) : ∃ N R, l = N ++ R ∧ (∀ c ∈ N, isL c = true) ∧ N.length ≤ 8 ∧ (N.length = 8 ∨ Stops isL R) := by
  have key : ∀ (n : Nat) (l : List Nat), ∃ N R, l = N ++ R ∧ (∀ c ∈ N, isL c = true) ∧ N.length ≤ n ∧ (N.length = n ∨ Stops isL R) := by
    intro n
    induction n with
    | zero => exact fun l => ⟨[], l, rfl, fun c h => absurd h List.not_mem_nil, Nat.le_refl _, .inl rfl⟩
    | succ n ih =>
      intro l
      cases l with
      | nil => exact ⟨[], [], rfl, fun c h => absurd h List.not_mem_nil, Nat.zero_le _, .inr fun c r h => by cases h⟩
      | cons c l =>
        cases hc : isL c with
        | false => exact ⟨[], c :: l, rfl, fun c h => absurd h List.not_mem_nil, Nat.zero_le _, .inr fun d r h => by cases h; exact hc⟩
        | true =>
          obtain ⟨N, R, e, h1, h2, h3⟩ := ih l
          refine ⟨c :: N, R, by rw [e]; rfl, fun d hd => ?_, by rw [List.length_cons]; omega, ?_⟩
          · rcases List.mem_cons.mp hd with rfl | h
            · exact hc
            · exact h1 d h
          · rcases h3 with h | h
            · exact .inl (by rw [List.length_cons, h])
            · exact .inr h
  exact key 8 l
theorem name_split {l N R : List Nat} (e : l = N ++ R) (h1 : ∀ c ∈ N, isL c = true) (h2 : N.length ≤ 8) (h3 : N.length = 8 ∨ Stops isL R) (hne : l ≠ []) : nameB l = decide ((0 : Int) + ((N.length : Nat) : Int) = ((l.length : Nat) : Int)) := by
  cases R with
  | nil =>
    rw [List.append_nil] at e
    subst e
    rw [decide_eq_true (by omega)]
    unfold nameB
    rw [decide_eq_true (by have := List.length_pos_iff.mpr hne; omega), decide_eq_true h2]
    simp only [Bool.true_and]
    exact List.all_eq_true.mpr h1
  | cons c R =>
    have hl : l.length = N.length + (R.length + 1) := by rw [e, List.length_append, List.length_cons]
    rw [decide_eq_false (by omega)]
    unfold nameB
    rcases h3 with h | h
    · rw [show decide (l.length ≤ 8) = false from decide_eq_false (by omega)]; simp
    · have hc := h c R rfl
      have : l.all isL = false := by rw [e, List.all_append, List.all_cons, hc]; simp
      rw [this]; simp
def spIsName : Sp := fun vs H Q _ => ∃ (z : Str), vs = [.str z] ∧ z.length ≤ 1000 ∧ Q (.bl (nameB (tl z))) H
theorem scIsName : FnScope ["text"] ["text"] (defScope sIsName) := ⟨rfl, rfl, rfl, by decide +kernel, rfl, by decide +kernel, by decide +kernel⟩
theorem ok_isname {f f_name_end f_is_letter : Addr} {fd fd_name_end fd_is_letter : FuncData} (B : Blt mg) (Z : Cst mg t1 t2 t3 t4 t5 t6) (F : Fun K "is_name" "is_name" sIsName f fd)
    (F_name_end : Fun K "name_end" "name_end" sNameEnd f_name_end fd_name_end) (b_name_end : Binds K fd_name_end ["text", "start"] []) (g_name_end : mg "name_end" = some (.ref f_name_end))
    (F_is_letter : Fun K "is_letter" "is_letter" sLetter f_is_letter fd_is_letter) (b_is_letter : Binds K fd_is_letter ["char"] []) (g_is_letter : mg "is_letter" = some (.ref f_is_letter)) :
    FnOk P w K mg base CX0 3 f fd ["text"] spIsName := by
  have G_name_end : FnOk P w K mg base CX0 2 f_name_end fd_name_end ["text", "start"] spEnd := ok_end Z F_name_end F_is_letter b_is_letter g_is_letter
  refine F.ok scIsName (fun vs H Q E h => ?_) (fun cdv A0 outer s H vs Q E hr h => ?_)
  · obtain ⟨z, rfl, _⟩ := h; rfl
  · obtain ⟨z, rfl, hz, q⟩ := h
    refine ⟨_, (pss_one (ps_ret (pe_and (pe_cmpR op_ne (pv 0) pe_str (nomark _)) (pe_one (pe_cmpR op_eq (pe_call G_name_end hr (by rfl) g_name_end F_name_end.kp b_name_end .nil pass0 (pa_cons (pv 0) (pa_cons pe_int pa_nil))) (pe_callB call_len (by rfl) B.len PySem.boot_len (pa_cons (pv 0) pa_nil)) (nomark _)))))), ?_⟩
    have hl := tl_len z
    obtain ⟨N, R, e, h1, h2, h3⟩ := end_split (tl z)
    refine ⟨.str z, rfl, rfl, _, rfl, ?_⟩
    rw [eqE]
    by_cases hne : tl z = []
    · rw [decide_eq_true hne]
      rw [hne] at q
      exact iteF q
    · rw [decide_eq_false hne]
      refine iteT ⟨.str z, rfl, z, [], N, R, rfl, by rw [List.nil_append]; exact e, h1, h2, h3, by omega, .str z, rfl, .str z, z.length, rfl, ⟨by rw [sizeLine_eq]; omega, rfl⟩, rfl, ?_⟩
      rw [name_split e h1 h2 h3 hne, hl] at q
      rw [eqI]
      have e0 : ((([] : List Nat).length + N.length : Nat) : Int) = (0 : Int) + ((N.length : Nat) : Int) := by simp
      rw [e0]
      exact q
/-! ### _read_test -/
def TstAt (H : Hp) (v : V) (x : Tst) : Prop := ∃ t, v = .ref t ∧ H t = some (.tup [.str x.1, .str x.2])
def spTest : Sp := fun vs H Q _ => ∃ (z : Str), vs = [.str z] ∧ z.length ≤ 1000 ∧ (testOf z = none → ∀ H', Same H H' → Q .non H') ∧ ∀ x, testOf z = some x → ∀ H' t, Same H H' → H' t = some (.tup [.str x.1, .str x.2]) → Q (.ref t) H'
theorem scTest : FnScope ["word", "kind", "dot", "mark"] ["word"] (defScope sTest) := ⟨rfl, rfl, rfl, by decide +kernel, rfl, by decide +kernel, by decide +kernel⟩
theorem part_word (z : Str) : Txt.partition z dotS = (kS z, if dB (tl z) = true then dotS else Str.empty, mS z) := by
  cases hd : dB (tl z) with
  | false =>
    obtain ⟨a, b⟩ := kS_nodot hd
    have h := TL.partition_none (y := dotS) (s := 46) (S := []) tl_dot (a := z) (of_decide_eq_false hd)
    rw [h, a, b]; rfl
  | true =>
    have h := TL.partition_app (y := dotS) (s := 46) (S := []) tl_dot (a := kS z) (b := mS z) (by rw [show TL.tl (kS z) = kL (tl z) from tl_kS z]; exact kL_free _)
    rw [← kS_dot hd] at h
    rw [h]; rfl
theorem parts_len (z : Str) : (kS z).length ≤ z.length ∧ (mS z).length ≤ z.length := by
  have h1 := tl_len z
  rw [← tl_len (kS z), ← tl_len (mS z), tl_kS, tl_mS]
  cases hd : dB (tl z) with
  | false => obtain ⟨a, b⟩ := cut_nodot hd; rw [a, b]; exact ⟨Nat.le_of_eq h1, Nat.zero_le _⟩
  | true =>
    have h2 := congrArg List.length (cut_dot hd)
    rw [List.length_append, List.length_cons] at h2
    omega
theorem ok_test {f f_is_name f_name_end f_is_letter : Addr} {fd fd_is_name fd_name_end fd_is_letter : FuncData} (B : Blt mg) (Z : Cst mg t1 t2 t3 t4 t5 t6) (F : Fun K "_read_test" "_read_test" sTest f fd)
    (F_is_name : Fun K "is_name" "is_name" sIsName f_is_name fd_is_name) (b_is_name : Binds K fd_is_name ["text"] []) (g_is_name : mg "is_name" = some (.ref f_is_name))
    (F_name_end : Fun K "name_end" "name_end" sNameEnd f_name_end fd_name_end) (b_name_end : Binds K fd_name_end ["text", "start"] []) (g_name_end : mg "name_end" = some (.ref f_name_end))
    (F_is_letter : Fun K "is_letter" "is_letter" sLetter f_is_letter fd_is_letter) (b_is_letter : Binds K fd_is_letter ["char"] []) (g_is_letter : mg "is_letter" = some (.ref f_is_letter)) :
    FnOk P w K mg base CX0 4 f fd ["word"] spTest := by
  have G_is_name : FnOk P w K mg base CX0 3 f_is_name fd_is_name ["text"] spIsName := ok_isname B Z F_is_name F_name_end b_name_end g_name_end F_is_letter b_is_letter g_is_letter
  refine F.ok scTest (fun vs H Q E h => ?_) (fun cdv A0 outer s H vs Q E hr h => ?_)
  · obtain ⟨z, rfl, _⟩ := h; rfl
  · obtain ⟨z, rfl, hzl, qn, qs⟩ := h
    refine ⟨_, (pss_cons (ps_asg (pe_partition (pv 0) pe_str) (pg_tup rfl (pgs_cons (pg_name (i := 1) scTest.nd rfl (.inl rfl)) (pgs_cons (pg_name (i := 2) scTest.nd rfl (.inl rfl)) (pgs_cons (pg_name (i := 3) scTest.nd rfl (.inl rfl)) pgs_nil)))))
      (Evl.pss_cut (ps_if (PW.pt (pw_and (pt_cmpR op_ne (pv 1) (pe_glob (v := .str (Str.ofString "*")) (by rfl) Z.g_ANY_KIND ⟨_, rfl⟩) (nomark _)) (pw_and1 (pt_not (pt_val (pe_call G_is_name hr (by rfl) g_is_name F_is_name.kp b_is_name .nil pass0 (pa_cons (pv 1) pa_nil)))))))
      (pss_one (ps_ret pe_non))
      pss_nil)
      (Evl.pss_cut (ps_if (PW.pt (pw_and (pt_cmpR op_ne (pv 2) pe_str (nomark _)) (pw_and1 (pt_not (pt_val (pe_call G_is_name hr (by rfl) g_is_name F_is_name.kp b_is_name .nil pass0 (pa_cons (pv 3) pa_nil)))))))
      (pss_one (ps_ret pe_non))
      pss_nil)
      (pss_one (ps_ret (pe_tup (pa_cons (pv 1) (pa_cons (pv 3) pa_nil)))))))), ?_⟩
    obtain ⟨pl1, pl2⟩ := parts_len z
    refine ⟨.str z, rfl, ⟨z, rfl⟩, z, dotS, rfl, rfl, by decide +kernel, Nat.le_trans hzl (by decide), fun p np => ?_⟩
    rw [part_word z]
    generalize hd : (if dB (tl z) = true then dotS else Str.empty) = d
    have s1 : Same H (upd H p (.tup [.str (kS z), .str d, .str (mS z)])) := same_new np
    refine ⟨p, _, rfl, SqT.of upd_same, rfl, .str (kS z), _, rfl, .str d, _, rfl, .str (mS z), _, rfl, rfl, ?_⟩
    generalize upd H p (.tup [.str (kS z), .str d, .str (mS z)]) = H1 at s1 ⊢
    have e1 : decide (V.str (kS z) = V.str (Str.ofString "*")) = decide (kS z = starS) := by
      refine decide_eq_decide.mpr ⟨fun e => by injection e, fun e => by rw [e]; rfl⟩
    have e2 : decide (V.str d = V.str (Str.ofString "")) = !dB (tl z) := by
      rw [eqE]
      cases hb : dB (tl z) with
      | true => rw [hb, if_pos rfl] at hd; subst hd; rw [tl_dot]; rfl
      | false => rw [hb, if_neg Bool.false_ne_true] at hd; subst hd; rfl
    have two : goodB z = ((decide (kS z = starS) || nameB (tl (kS z))) && (!dB (tl z) || nameB (tl (mS z)))) := rfl
    refine ⟨fun σ H' => σ = [some (.str z), some (.str (kS z)), some (.str d), some (.str (mS z))] ∧ H' = H1 ∧ (decide (kS z = starS) || nameB (tl (kS z))) = true, ?_, ?_⟩
    · refine ⟨.str (kS z), rfl, rfl, _, rfl, ?_⟩
      rw [e1]
      by_cases hs : kS z = starS
      · rw [decide_eq_true hs]
        exact iteF (iteF ⟨rfl, rfl, rfl⟩)
      · rw [decide_eq_false hs]
        refine iteT ⟨.str (kS z), rfl, kS z, rfl, by omega, _, rfl, ?_⟩
        cases hk : nameB (tl (kS z)) with
        | true => exact iteF ⟨rfl, rfl, rfl⟩
        | false =>
          refine iteT (qn ?_ _ s1)
          unfold testOf
          rw [two, decide_eq_false hs, hk]; rfl
    · rintro σ H' ⟨rfl, rfl, hp⟩
      refine ⟨fun σ H2 => σ = [some (.str z), some (.str (kS z)), some (.str d), some (.str (mS z))] ∧ H2 = H' ∧ goodB z = true, ?_, ?_⟩
      · refine ⟨.str d, rfl, rfl, _, rfl, ?_⟩
        rw [e2]
        cases hb : dB (tl z) with
        | false => exact iteF (iteF ⟨rfl, rfl, by rw [two, hp, hb]; rfl⟩)
        | true =>
          refine iteT ⟨.str (mS z), rfl, mS z, rfl, by omega, _, rfl, ?_⟩
          cases hm : nameB (tl (mS z)) with
          | true => exact iteF ⟨rfl, rfl, by rw [two, hp, hm, Bool.or_true]; rfl⟩
          | false =>
            refine iteT (qn ?_ _ s1)
            unfold testOf
            rw [two, hp, hb, hm]; rfl
      · rintro σ H2 ⟨rfl, rfl, hg⟩
        exact ⟨.str (kS z), rfl, .str (mS z), rfl, by show 2 ≤ sizeLine; decide, fun t nt => qs (kS z, mS z) (by unfold testOf; rw [if_pos hg]) _ t (s1.trans (same_new nt)) upd_same⟩
end
end K10

set_option maxRecDepth 100000
set_option maxHeartbeats 4000000
namespace K10
open PySem PySem.Spec PyProof.Rows L2
/-! ### an if whose test is shown once -/
def tIfC (c : TT) (t u : TS) : TS := fun D σ H => ∃ Mid : Bool → Hp → Prop, c σ H Mid ∧ (∀ H', Mid true H' → t D σ H') ∧ ∀ H', Mid false H' → u D σ H'
theorem ps_ifC {X : Cx} {c : Expr} {a b : List Stmt} {pos : Pos} {tc : TT} {t u : TS} (hc : PT X c tc) (ha : PSs X a t) (hb : PSs X b u) : PS X (.If c a b pos) (tIfC tc t u) := by
  refine ⟨fun pins s σ H D I h => ?_⟩
  obtain ⟨Mid, hm, h1, h2⟩ := h
  refine wpAny_If (thn (hc.run pins s σ H Mid I hm) fun d s1 ⟨H1, I1, q1⟩ => ?_)
  cases d with
  | true => exact ha.run pins s1 σ H1 D I1 (h1 _ q1)
  | false => exact hb.run pins s1 σ H1 D I1 (h2 _ q1)
/-! ### words of a text -/
theorem spl_len : ∀ (l acc : List Nat), (TL.spl [32] 0 acc l).length = l.count 32 + 1
  | [], acc => by rw [TL.spl_nil]; rfl
  | c :: r, acc => by
    by_cases hc : c = 32
    · subst hc
      have hp : TL.pre [32] (32 :: r) = true := by simp [TL.pre]
      rw [TL.spl_hit hp, List.length_cons]
      show (TL.spl [32] 0 [] r).length + 1 = _
      rw [spl_len r []]
      simp
    · have hp : TL.pre [32] (c :: r) = false := by simp [TL.pre]; exact hc
      rw [TL.spl_miss hp, spl_len r _]
      simp [List.count_cons, hc]
theorem spl_piece : ∀ (l acc : List Nat), ∀ p ∈ TL.spl [32] 0 acc l, p.length ≤ acc.length + l.length
  | [], acc, p, hp => by rw [TL.spl_nil] at hp; rw [List.mem_singleton.mp hp]; simp
  | c :: r, acc, p, hp => by
    by_cases hc : c = 32
    · subst hc
      rw [TL.spl_hit (by simp [TL.pre])] at hp
      rcases List.mem_cons.mp hp with rfl | h
      · simp
      · have := spl_piece r [] p h
        simp at this ⊢; omega
    · rw [TL.spl_miss (by simp [TL.pre]; exact hc)] at hp
      have := spl_piece r _ p hp
      simp at this ⊢; omega
theorem splitW (z : Str) : (Txt.split z blankS).map tl = TL.spl [32] 0 [] (tl z) := by
  have h := TL.split_spl z blankS (by decide +kernel) (TL.kind_ok (by decide +kernel))
  rw [show TL.tl blankS = [32] from tl_blank] at h
  exact h
abbrev wds (z : Str) : List Str := Txt.split z blankS
theorem word_le {z p : Str} (h : p ∈ wds z) : p.length ≤ z.length := by
  have h1 : tl p ∈ TL.spl [32] 0 [] (tl z) := by rw [← splitW]; exact List.mem_map_of_mem h
  have := spl_piece (tl z) [] _ h1
  rw [tl_len, tl_len] at this; simpa using this
theorem wds_len (z : Str) : (wds z).length = (tl z).count 32 + 1 := by
  have h := spl_len (tl z) []
  rw [← splitW, List.length_map] at h; exact h
theorem wds_le (z : Str) : (wds z).length ≤ z.length + 1 := by
  rw [wds_len]
  have h : (tl z).count 32 ≤ (tl z).length := List.count_le_length
  rw [tl_len] at h; omega
theorem wds_pos (z : Str) : 1 ≤ (wds z).length := by rw [wds_len]; omega
def TstsAt (H : Hp) (us : List V) (xs : List Tst) : Prop := us.length = xs.length ∧ ∀ (i : Nat) (v : V) (x : Tst), us[i]? = some v → xs[i]? = some x → TstAt H v x
theorem TstsAt.nil {H : Hp} : TstsAt H [] [] := ⟨rfl, fun i v x h => by simp at h⟩
theorem TstsAt.tups {H H' : Hp} {vs : List V} {xs : List Tst} (h : TstsAt H vs xs) (s : ∀ b ys, H b = some (.tup ys) → H' b = some (.tup ys)) : TstsAt H' vs xs :=
  ⟨h.1, fun i v x a b => by obtain ⟨t, e, ht⟩ := h.2 i v x a b; exact ⟨t, e, s _ _ ht⟩⟩
theorem TstsAt.same {H H' : Hp} {vs : List V} {xs : List Tst} (h : TstsAt H vs xs) (s : Same H H') : TstsAt H' vs xs := h.tups fun _ _ e => s _ _ e
theorem TstsAt.snoc {H : Hp} {vs : List V} {xs : List Tst} {v : V} {x : Tst} (h : TstsAt H vs xs) (ht : TstAt H v x) : TstsAt H (vs ++ [v]) (xs ++ [x]) := by
  obtain ⟨hl, hi⟩ := h
  refine ⟨by rw [List.length_append, List.length_append, hl]; rfl, fun i u y a b => ?_⟩
  by_cases h : i < vs.length
  · rw [List.getElem?_append_left h] at a
    rw [List.getElem?_append_left (by omega)] at b
    exact hi i u y a b
  · have h2 := (List.getElem?_eq_some_iff.mp a).1
    rw [List.length_append, List.length_singleton] at h2
    obtain rfl : i = vs.length := by omega
    rw [List.getElem?_append_right (Nat.le_refl _), Nat.sub_self] at a
    rw [List.getElem?_append_right (by omega), hl, Nat.sub_self] at b
    cases a; cases b
    exact ht
theorem TstsAt.get {H : Hp} {vs : List V} {xs : List Tst} {i : Nat} {x : Tst} (h : TstsAt H vs xs) (hx : xs[i]? = some x) : ∃ v t, vs[i]? = some v ∧ v = .ref t ∧ H t = some (.tup [.str x.1, .str x.2]) := by
  have hi := (List.getElem?_eq_some_iff.mp hx).1
  have hv : vs[i]? = some (vs[i]'(by have := h.1; omega)) := List.getElem?_eq_getElem _
  obtain ⟨t, e, ht⟩ := h.2 i _ x hv hx
  exact ⟨_, t, hv, e, ht⟩

theorem eqStr (a b : Str) : (a == b) = decide (a = b) := by
  by_cases h : a = b
  · rw [h]; simp
  · rw [decide_eq_false h]; exact beq_eq_false_iff_ne.mpr h
theorem inV_syms (z : Str) : inV (.str z) [.str (Str.ofString ">"), .str (Str.ofString "+")] = lnkB z := by
  unfold lnkB
  rw [show Str.ofString ">" = gtS from rfl, show Str.ofString "+" = plS from rfl]
  have h : inV (.str z) [.str gtS, .str plS] = (decide (gtS = z) || decide (plS = z)) := by simp [inV, eqV, eqStr]
  rw [h]
  exact congr (congrArg or (decide_eq_decide.mpr ⟨Eq.symm, Eq.symm⟩)) (decide_eq_decide.mpr ⟨Eq.symm, Eq.symm⟩)
section
variable {P : Program} {w : World} {K : PySem.W.Frag} {mg : Str → Option Value} {base : Heap} {t1 t2 t3 t4 t5 t6 : Tok}
/-! ### _read_tests -/
def spTests : Sp := fun vs H Q _ => ∃ (z : Str), vs = [.str z] ∧ z.length ≤ 900 ∧ (rdT (wds z) = none → ∀ H', Same H H' → Q .non H') ∧
  ∀ ts, rdT (wds z) = some ts → ∀ H' p a b us bs, Same H H' → H' p = some (.tup [.ref a, .ref b]) → H' a = some (.tup us) → TstsAt H' us ts → H' b = some (.tup bs) → Q (.ref p) H'
theorem scTests : FnScope ["text", "tests", "links", "link", "word", "test"] ["text"] (defScope sTests) := ⟨rfl, rfl, rfl, by decide +kernel, rfl, by decide +kernel, by decide +kernel⟩
theorem lnk_ne {w : Str} (h : lnkB w = true) : tl w ≠ [] := by
  unfold lnkB at h
  rw [Bool.or_eq_true, decide_eq_true_eq, decide_eq_true_eq] at h
  rcases h with rfl | rfl <;> decide +kernel
structure Rel (lk : Bool) (ts : List Tst) (lnk : Str) : Prop where
  e : lk = (!decide (ts = []) && decide (tl lnk = []))
  n : ts = [] → tl lnk = []
theorem ok_tests {f f_read_test f_is_name f_name_end f_is_letter : Addr} {fd fd_read_test fd_is_name fd_name_end fd_is_letter : FuncData} (B : Blt mg) (Z : Cst mg t1 t2 t3 t4 t5 t6) (F : Fun K "_read_tests" "_read_tests" sTests f fd)
    (F_read_test : Fun K "_read_test" "_read_test" sTest f_read_test fd_read_test) (b_read_test : Binds K fd_read_test ["word"] []) (g_read_test : mg "_read_test" = some (.ref f_read_test))
    (F_is_name : Fun K "is_name" "is_name" sIsName f_is_name fd_is_name) (b_is_name : Binds K fd_is_name ["text"] []) (g_is_name : mg "is_name" = some (.ref f_is_name))
    (F_name_end : Fun K "name_end" "name_end" sNameEnd f_name_end fd_name_end) (b_name_end : Binds K fd_name_end ["text", "start"] []) (g_name_end : mg "name_end" = some (.ref f_name_end))
    (F_is_letter : Fun K "is_letter" "is_letter" sLetter f_is_letter fd_is_letter) (b_is_letter : Binds K fd_is_letter ["char"] []) (g_is_letter : mg "is_letter" = some (.ref f_is_letter)) :
    FnOk P w K mg base CX0 5 f fd ["text"] spTests := by
  have G_read_test : FnOk P w K mg base CX0 4 f_read_test fd_read_test ["word"] spTest := ok_test B Z F_read_test F_is_name b_is_name g_is_name F_name_end b_name_end g_name_end F_is_letter b_is_letter g_is_letter
  refine F.ok scTests (fun vs H Q E h => ?_) (fun cdv A0 outer s H vs Q E hr h => ?_)
  · obtain ⟨z, rfl, _⟩ := h; rfl
  · obtain ⟨z, rfl, hzl, qn, qs⟩ := h
    refine ⟨_, (pss_cons (ps_set (i := 1) scTests.nd rfl (.inl rfl) (pe_lst pa_nil))
      (pss_cons (ps_set (i := 2) scTests.nd rfl (.inl rfl) (pe_lst pa_nil))
      (pss_cons (ps_set (i := 3) scTests.nd rfl (.inl rfl) (pe_glob (v := .str (Str.ofString "")) (by rfl) Z.g_INSIDE ⟨_, rfl⟩))
      (pss_cons (ps_for (PassesOwn.never) rfl (pi_list (pe_split (pv 0) pe_str)) (pg_name (i := 4) scTests.nd rfl (.inl rfl))
      (pss_one (ps_ifC (PW.pt (pw_and (pt_truth (pv 1) (by intro _; rfl)) (pw_and (pt_cmpR op_eq (pv 3) (pe_glob (v := .str (Str.ofString "")) (by rfl) Z.g_INSIDE ⟨_, rfl⟩) (nomark _)) (pw_and1 (pt_cmpR op_in_seq (pv 4) (pe_tup (pa_cons (pe_glob (v := .str (Str.ofString ">")) (by rfl) Z.g_CHILD ⟨_, rfl⟩) (pa_cons (pe_glob (v := .str (Str.ofString "+")) (by rfl) Z.g_BEHIND ⟨_, rfl⟩) pa_nil))) (by with_unfolding_all rfl))))))
       (pss_one (ps_set (i := 3) scTests.nd rfl (.inl rfl) (pv 4)))
       (pss_cons (ps_set (i := 5) scTests.nd rfl (.inl rfl) (pe_call G_read_test hr (by rfl) g_read_test F_read_test.kp b_read_test .nil pass0 (pa_cons (pv 4) pa_nil)))
        (pss_cons (ps_if (pt_cmpR op_isN (pv 5) pe_non (nomark _))
        (pss_one (ps_ret pe_non))
        pss_nil)
        (Evl.pss_cut (ps_if (pt_truth (pv 1) (by intro _; rfl))
        (pss_one (ps_expr (pe_bm PySem.F.plainAttrs_list PySem.F.slot_list_append PySem.F.type_list_append mt_append (pv 2) (pa_cons (pv 3) pa_nil))))
        pss_nil)
        (pss_cons (ps_expr (pe_bm PySem.F.plainAttrs_list PySem.F.slot_list_append PySem.F.type_list_append mt_append (pv 1) (pa_cons (pv 5) pa_nil)))
        (pss_one (ps_set (i := 3) scTests.nd rfl (.inl rfl) (pe_glob (v := .str (Str.ofString "")) (by rfl) Z.g_INSIDE ⟨_, rfl⟩))))))))))
      (pss_cons (ps_ifC (PW.pt (pw_or (pt_cmpR op_ne (pv 3) (pe_glob (v := .str (Str.ofString "")) (by rfl) Z.g_INSIDE ⟨_, rfl⟩) (nomark _)) (pw_or1 (pt_cmpR op_gt (pe_callB call_len (by rfl) B.len PySem.boot_len (pa_cons (pv 1) pa_nil)) (pe_glob (v := .int 4) (by rfl) Z.g_MOST_TESTS ⟨_, rfl⟩) (nomark _)))))
      (pss_one (ps_ret pe_non))
      pss_nil)
      (pss_one (ps_ret (pe_tup (pa_cons (pe_callTy call_tuple_of (by rfl) B.tuple (by decide +kernel) (pa_cons (pv 1) pa_nil)) (pa_cons (pe_callTy call_tuple_of (by rfl) B.tuple (by decide +kernel) (pa_cons (pv 2) pa_nil)) pa_nil)))))))))), ?_⟩
    have hwl := wds_le z
    refine ⟨Nat.zero_le _, fun ta na => ⟨Nat.zero_le _, fun la nl => ?_⟩⟩
    have s0 : Same H (upd (upd H ta (.lst [])) la (.lst [])) := same_new2 (same_new na) nl
    have nal : ta ≠ la := ne_of_none (o := .lst []) upd_same nl
    have ea : (upd (upd H ta (.lst [])) la (.lst [])) ta = some (.lst []) := by rw [upd_ne nal]; exact upd_same
    have el : (upd (upd H ta (.lst [])) la (.lst [])) la = some (.lst []) := upd_same
    have nl0 : H la = none := by rw [upd_ne (Ne.symm nal)] at nl; exact nl
    generalize upd (upd H ta (.lst [])) la (.lst []) = H0 at s0 ea el ⊢
    refine ⟨.str z, rfl, ⟨_, rfl⟩, z, blankS, rfl, rfl, by decide +kernel, by rw [sizeLine_eq]; omega, fun L nL => ⟨L, rfl, ⟨_, SqL.of upd_same⟩, ?_⟩⟩
    have s1 : Same H0 (upd H0 L (.lst ((wds z).map V.str))) := same_new nL
    have eL : (upd H0 L (.lst ((wds z).map V.str))) L = some (.lst ((wds z).map V.str)) := upd_same
    have naL : L ≠ ta := (ne_of_none ea nL).symm
    have nlL : L ≠ la := (ne_of_none el nL).symm
    refine for_list (K := K) (a := L) (xs := (wds z).map V.str) (fun n σ H' => ∃ (y4 y5 : Option V) (us bs : List V) (lnk : Str) (ts : List Tst) (lk : Bool), σ = [some (.str z), some (.ref ta), some (.ref la), some (.str lnk), y4, y5] ∧ Same H H' ∧ H' L = some (.lst ((wds z).map V.str)) ∧ H' ta = some (.lst us) ∧ TstsAt H' us ts ∧ H' la = some (.lst bs) ∧ runR ((wds z).take n) = some (ts, lk) ∧ Rel lk ts lnk ∧ (0 < n → ts ≠ []) ∧ ts.length ≤ n ∧ bs.length ≤ n)
      ⟨none, none, [], [], Str.ofString "", [], false, rfl, s0.trans s1, eL, s1 _ _ ea, TstsAt.nil, s1 _ _ el, rfl, ⟨rfl, fun _ => by decide +kernel⟩, fun h => absurd h (Nat.lt_irrefl 0), Nat.le_refl _, Nat.le_refl _⟩ (fun n σ H' _ ⟨_, _, _, _, _, _, _, _, _, h, _⟩ => SqL.of h) ?_ ?_
    · rintro n v σ H' hn ⟨y4, y5, us, bs, lnk, ts, lk, rfl, sm, hL, hta, hT, hla, hrun, rel, hne, htl, hbl⟩
      rw [List.getElem?_map] at hn
      cases en : (wds z)[n]? with
      | none => rw [en] at hn; cases hn
      | some wd =>
      rw [en] at hn; cases hn
      have hnl : n < (wds z).length := (List.getElem?_eq_some_iff.mp en).1
      have hwd : wd.length ≤ 1000 := by have := word_le (List.mem_of_getElem? en); omega
      have hstep := run_take en
      rw [hrun] at hstep
      have hul := hT.1
      refine ⟨fun b H2 => Same H' H2 ∧ b = (lk && lnkB wd), ?_, ?_, ?_⟩
      · -- the test
        refine ⟨.ref ta, rfl, _, .inl ⟨_, SqL.of hta, rfl⟩, ?_⟩
        by_cases hts : ts = []
        · have hu0 : us = [] := List.length_eq_zero_iff.mp (by rw [hul, hts]; rfl)
          rw [hu0]
          refine iteF ⟨Same.refl _, ?_⟩
          rw [rel.e, hts]; rfl
        · have hue : (!us.isEmpty) = true := by
            cases us with
            | nil => exact absurd (List.length_eq_zero_iff.mp (by rw [← hul]; rfl)) hts
            | cons _ _ => rfl
          rw [hue]
          refine iteT ⟨.str lnk, rfl, rfl, _, rfl, ?_⟩
          rw [eqE]
          by_cases hk : tl lnk = []
          · rw [decide_eq_true hk]
            refine iteT ⟨.str wd, rfl, by show 2 ≤ sizeLine; decide, fun p np => ?_⟩
            refine ⟨p, _, rfl, .inr (SqT.of upd_same), rfl, rfl, ?_⟩
            refine ⟨_, rfl, same_new np, ?_⟩
            rw [inV_syms, rel.e, decide_eq_false hts, decide_eq_true hk]; rfl
          · rw [decide_eq_false hk]
            refine iteF ⟨Same.refl _, ?_⟩
            rw [rel.e, decide_eq_false hk, Bool.and_false]; rfl
      · -- a link
        rintro H2 ⟨s2, hb⟩
        have hb' := hb.symm
        have hst : stepR (some (ts, lk)) wd = some (ts, false) := by simp only [stepR]; rw [if_pos hb']
        rw [hst] at hstep
        rw [Bool.and_eq_true] at hb'
        have hts : ts ≠ [] := fun h => by rw [rel.e, h] at hb'; exact absurd hb'.1 (by simp)
        exact ⟨.str wd, rfl, _, _, us, bs, wd, ts, false, rfl, sm.trans s2, s2 _ _ hL, s2 _ _ hta, hT.same s2, s2 _ _ hla, hstep, ⟨by rw [decide_eq_false (lnk_ne hb'.2), Bool.and_false], fun h => absurd h hts⟩, fun _ => hts, by omega, by omega⟩
      · -- a test
        rintro H2 ⟨s2, hb⟩
        have hst : stepR (some (ts, lk)) wd = (match testOf wd with | none => none | some x => some (ts ++ [x], true)) := by simp only [stepR]; rw [if_neg (by rw [← hb]; exact Bool.false_ne_true)] <;> rfl
        rw [hst] at hstep
        have sm2 := sm.trans s2
        refine ⟨.str wd, rfl, wd, rfl, hwd, fun hno H3 s3 => ?_, fun x hx H3 t s3 ht => ?_⟩
        · refine ⟨.non, rfl, rfl, _, rfl, iteT (qn ?_ _ (sm2.trans s3))⟩
          rw [hno] at hstep
          have h0 := run_none hstep
          unfold rdT; rw [h0]
        · refine ⟨.ref t, rfl, rfl, _, rfl, iteF ?_⟩
          rw [hx] at hstep
          have sm3 := sm2.trans s3
          have s23 := s2.trans s3
          have hta3 := s23 _ _ hta
          have hla3 := s23 _ _ hla
          have hL3 := s23 _ _ hL
          have hT3 := hT.same s23
          refine ⟨fun σ H4 => ∃ bs', σ = [some (.str z), some (.ref ta), some (.ref la), some (.str lnk), some (.str wd), some (.ref t)] ∧ Same H H4 ∧ SameT H3 H4 ∧ H4 L = some (.lst ((wds z).map V.str)) ∧ H4 ta = some (.lst us) ∧ H4 la = some (.lst bs') ∧ bs'.length ≤ n + 1, ?_, ?_⟩
          · refine ⟨.ref ta, rfl, _, .inl ⟨_, SqL.of hta3, rfl⟩, ite2 (fun _ => ?_) (fun _ => ?_)⟩
            · refine ⟨.ref la, rfl, .inl ⟨rfl, _, SqL.of hla3⟩, .str lnk, rfl, la, _, _, rfl, rfl, hla3, small1000 (by omega), ?_⟩
              exact ⟨_, rfl, same_at sm3 nl0, SameT.lst hla3, by rw [upd_ne nlL]; exact hL3, by rw [upd_ne nal]; exact hta3, upd_same, by rw [List.length_append]; show _ + 1 ≤ _; omega⟩
            · exact ⟨bs, rfl, sm3, SameT.refl _, hL3, hta3, hla3, by omega⟩
          · rintro σ H4 ⟨bs', rfl, sm4, t34, hL4, hta4, hla4, hbl4⟩
            refine ⟨.ref ta, rfl, .inl ⟨rfl, _, SqL.of hta4⟩, .ref t, rfl, ta, us, .ref t, rfl, rfl, hta4, small1000 (by omega), ?_⟩
            have tt : SameT H4 (upd H4 ta (.lst (us ++ [.ref t]))) := SameT.lst hta4
            have t35 := t34.trans tt
            refine ⟨_, _, us ++ [.ref t], bs', Str.ofString "", ts ++ [x], true, rfl, same_at sm4 na, by rw [upd_ne naL]; exact hL4, upd_same, (hT3.tups t35).snoc ⟨t, rfl, t35 _ _ ht⟩, by rw [upd_ne (Ne.symm nal)]; exact hla4, hstep, ⟨?_, fun h => absurd h (by simp)⟩, fun _ => by simp, by rw [List.length_append]; show _ + 1 ≤ _; omega, hbl4⟩
            rw [decide_eq_false (by simp), decide_eq_true (show tl (Str.ofString "") = [] by decide +kernel)]; rfl
    · rintro σ H' ⟨y4, y5, us, bs, lnk, ts, lk, rfl, sm, hL, hta, hT, hla, hrun, rel, hne, htl, hbl⟩
      rw [List.length_map, List.take_length] at hrun
      rw [List.length_map] at hne
      have hts : ts ≠ [] := hne (wds_pos z)
      have hul := hT.1
      have hlk : lk = decide (tl lnk = []) := by rw [rel.e, decide_eq_false hts]; rfl
      refine ⟨fun b H2 => H2 = H' ∧ b = (!lk || decide (4 < ts.length)), ?_, ?_, ?_⟩
      · refine ⟨.str lnk, rfl, rfl, _, rfl, ?_⟩
        rw [eqE, ← hlk]
        cases lk with
        | false => exact iteT ⟨rfl, rfl⟩
        | true =>
          refine iteF ⟨.ref ta, rfl, .ref ta, us.length, rfl, .inl ⟨_, SqL.of hta, rfl⟩, _, 4, rfl, rfl, _, rfl, rfl, ?_⟩
          rw [hul]
          show decide ((ts.length : Int) > 4) = decide (4 < ts.length)
          exact decide_eq_decide.mpr (by omega)
      · rintro H2 ⟨rfl, hb⟩
        refine qn ?_ _ sm
        unfold rdT; rw [hrun]
        cases lk with
        | false => rfl
        | true =>
          have h4 : ¬ ts.length ≤ 4 := by have := of_decide_eq_true (hb.symm); omega
          simp only; rw [if_neg h4]
      · rintro H2 ⟨rfl, hb⟩
        have hb' := hb.symm
        rw [Bool.or_eq_false_iff] at hb'
        have hl1 : lk = true := by simpa using hb'.1
        have h4 : ts.length ≤ 4 := by have := of_decide_eq_false hb'.2; omega
        refine ⟨.ref ta, rfl, ta, us, rfl, .inl ⟨SqL.of hta, fun a na2 => ?_⟩⟩
        have sa := same_new na2 (o := .tup us)
        refine ⟨.ref la, rfl, la, _, rfl, .inl ⟨SqL.of (sa _ _ hla), fun b nb => ?_⟩⟩
        have sb := same_new nb (o := .tup bs)
        have hrd : rdT (wds z) = some ts := by
          unfold rdT; rw [hrun, hl1]; simp only; rw [if_pos h4]
        exact ⟨by show 2 ≤ sizeLine; decide, fun p np => qs ts hrd _ p a b us bs (((sm.trans sa).trans sb).trans (same_new np)) upd_same (same_new np _ _ (sb _ _ upd_same)) (((hT.same sa).same sb).same (same_new np)) (same_new np _ _ upd_same)⟩
end
end K10

set_option maxRecDepth 100000
set_option maxHeartbeats 4000000
namespace K10
open PySem PySem.Spec PyProof.Rows L2 PySem.W PySem.Calls
/-! isinstance of a caught error whose own dict stands -/
section
variable {prog : Program} {w : World} {A : Around} {E : Value → Shared → Prop} {s : Shared} {K : Frag} {x D : Addr} {ox : Obj} {od : Option Obj}
theorem find_cls (hc : (clsIn K D).isSome = true) (C : L2.ExcC K D) : findObj K D od "__class__" = some (.bind (.builtin "getset_descriptor.__get__") (.builtin "object.__class__")) := by
  obtain ⟨cd, e⟩ := Option.isSome_iff_exists.mp hc
  unfold findObj
  rw [e, Option.bind_some, C.ha, Option.bind_some]; simp [C.hn, C.ht]
theorem ask_cls {Q : Option Value → Shared → Prop} (C : L2.ExcC K D) (X : K.In s.heap) (I : InstAt s.heap x ox D od) (h : Q (some (.ref D)) { s with toks := s.toks + 1 }) :
    wpAny (model prog w) A (getAttr? (.ref x) "__class__") Q E s := by
  have hf := find_cls (od := od) (by obtain ⟨c0, e0, _⟩ := any_some C.hd; rw [e0]; rfl) C
  obtain ⟨hp, g, dr, tk, os⟩ := s
  have A0 := I.type (M := model prog w); have A1 := looks_findIn (M := model prog w) X C.hg; have A2 := looks_findIn (M := model prog w) X C.hk
  have A3 := looks_find (M := model prog w) X I hf; have A4 : Looks (model prog w) hp (isInstance (.ref x) (.type "BaseException")) true := A0.andThen (looks_subIn X C.hs)
  have b0 : (false && onTheHeap (Value.builtin "BaseException.__getattribute__")) = false := rfl
  have b2 : (Value.builtin "BaseException.__getattribute__" == Value.builtin "object.__getattribute__") = false := by decide +kernel
  have b1 : (onTheHeap (Value.ref D) && Value.builtin "BaseException.__getattribute__" == Value.builtin "object.__getattribute__") = false := by rw [b2]; rfl
  unfold getAttr? getAttrBy? getAttrBy
  refine wpAny_bind (wpAny_mkText (wpAny_bind (wpAny_attempt (wpAny_holding (wpAny_bind (A0.at (wpAny_bind (A1.at ?_))))))))
  show wpAny _ _ (if (onTheHeap (Value.ref D) && Value.builtin "BaseException.__getattribute__" == Value.builtin "object.__getattribute__") = true then _ else _) _ _ _
  rw [b1, if_neg Bool.false_ne_true]; unfold getAttrByItsOwn hookBefore
  refine wpAny_bind ?_; rw [if_pos (show onTheHeap (Value.ref D) = true from rfl)]; refine A2.at ?_
  refine wpAny_bind (wpAny_attempt (wpAny_holding ?_)); unfold callGetattribute; rw [b0, if_neg Bool.false_ne_true]; unfold boundAndCalled
  rw [PySem.F.excAttr_ValueError.ga.bind (.ref x)]; refine wpAny_bind (wpAny_pure ?_)
  show wpAny _ _ (call (.builtin "BaseException.__getattribute__") [.ref x, .str "__class__" tk]) _ _ _
  refine wpAny_call (codeAny_call_builtin PySem.F.excAttr_ValueError.ga.plain PySem.F.entry_bexc_ga ?_)
  refine @check_slot (model prog w) _ _ ⟨hp, g, dr, tk + 1, os⟩ "BaseException.__getattribute__" "BaseException" "__getattribute__" (.ref x) [.str "__class__" tk] [] _ (by decide +kernel) (by decide +kernel) A4 (PySem.F.args_bexc_ga (.ref x) (.str "__class__" tk)) ?_
  unfold Builtin.«object.__getattribute__»; refine wpAny_bind (wpAny_of_eq (a := ((Value.ref x : Value), [Value.str "__class__" tk])) (by first | rfl | (simp only [slotArgs]; rfl)) ?_)
  refine wpAny_bind (wpAny_pure (wpAny_bind (A0.at (wpAny_bind (A3.at ?_)))))
  show wpAny _ _ (holding [Value.builtin "object.__class__"] (call (.builtin "getset_descriptor.__get__") [.builtin "object.__class__", .ref x, .ref D]) >>= ret) _ _ _
  refine wpAny_bind (wpAny_holding (wpAny_call (class_get (s := ⟨hp, g, dr, tk + 1, os⟩) (ox := ox) (od := od) X I C.hm ?_))); refine wpAny_pure ?_
  show wpAny _ _ (handedOut (.ref D)) _ _ _; rw [handedOut_of (v := .ref D) rfl]
  first | exact wpAny_pure (wpAny_pure h) | exact wpAny_pure h | exact wpAny_pure (wpAny_bind (wpAny_pure (wpAny_pure h)))
theorem kit_err (C : L2.ExcC K D) : KitX K (.ref x) (.ref D) (fun h => InstAt h x ox D od) := by
  obtain ⟨cd, hc, _⟩ := any_some C.hd
  refine ⟨fun _ _ _ I => I.type, fun M h X _ => ?_, fun h tp dd its n sl X htp => ?_, fun X I k => ask_cls C X I k⟩
  · unfold clsIn at hc
    split at hc
    · rename_i o1 o2 o3 o4 ho
      intro A' Q' E' s' k q; unfold isType loadHead; exact wpAny_bind (wpAny_loadPart (k _ _ (X _ _ ho)) (wpAny_pure q))
    · cases hc
  · refine Bool.eq_false_iff.mpr fun q => ?_
    have e : D = tp := Value.ref.inj (beq_iff_eq.mp q); subst e
    unfold clsIn at hc
    split at hc
    · rename_i o1 o2 o3 o4 ho
      have z := (X _ _ ho).symm.trans htp; cases z
    · cases hc
end
/-- isinstance(e, c), e the caught error at a, of class D, its own dict at dd -/
def rIsD (K : PySem.W.Frag) (D a : Addr) (cls : Value) (d : Option Addr) : List V → Hp → VK → Prop := fun xs H Q => ∃ (c : V) (cv : Value) (b : Bool) (dd : Addr) (fs : List (Str × V)),
  cls = .ref D ∧ xs = [.ref a, c] ∧ (∀ u, RelV c u → u = cv) ∧ kitOne K (.ref D) cv = some b ∧ d = some dd ∧ H dd = some (.xd fs) ∧ Q (.bl b) H
theorem call_isD {X : Cx} {a D : Addr} {oe : Obj} {cls : Value} {d : Option Addr} {pn : List (Addr × Obj)} (C : ExcC X.K D) (hz : Zc cls d oe) (hf : ∃ vs, oe.data = .fields vs) : CallR (X.suite a ((a, oe) :: pn)) (.builtin "isinstance") (rIsD X.K D a cls d) := by
  intro pins s σ H xs us Q I r h
  obtain ⟨c, cv, b, dd, fs, ecl, rfl, hcv, e, ed, ea, q⟩ := h
  subst ecl
  subst ed
  obtain ⟨u1, u2, rfl, r1, r2⟩ := vals2 r
  obtain rfl : u1 = Value.ref a := r1
  have ec := hcv _ r2; subst ec
  obtain ⟨hget, _⟩ := I.pin (a, oe) (List.mem_append_left _ List.mem_cons_self)
  obtain ⟨vs, hv⟩ := hf
  have hx : ObjOk X.prog X.w H s.heap dd (.xd fs) := I.hok dd _ ea
  obtain ⟨mA, hns, hr⟩ := hx
  obtain ⟨od, ho, hl⟩ := lookIn_ns hns
  have J : InstAt s.heap a oe D (some od) := ⟨hget, hz.1, by unfold PySem.W.notCls; rw [hv] <;> rfl, by rw [hz.2]; exact ho⟩
  exact kia_one (kit_err C) I.kIn J e (fun z => nomatch z) fun tk => ⟨.bl b, H, I.kept (t' := tk) fun _ _ z => z, rfl, q⟩
structure BadP (K : PySem.W.Frag) (mg : Str → Option Value) (C fI : Addr) (fd : FuncData) : Prop where
  gC : mg "BadPattern" = some (.ref C)
  oex : OexC K C
  fp : PySem.W.findIn K (.ref C) "text" = some none
  iC : PySem.W.findIn K (.ref C) "__init__" = some (some (.ref fI))
  tI : PySem.W.typeIn K (.ref fI) = some (.type "function")
  F : Fun K "__init__" "BadPattern.__init__" sBPInit fI fd
  b : Binds K fd ["self", "text"] []
section
variable {P : Program} {w : World} {K : PySem.W.Frag} {mg : Str → Option Value} {base : Heap}
theorem scInit : FnScope ["self", "text"] ["self", "text"] (defScope sBPInit) := ⟨rfl, rfl, rfl, by decide +kernel, rfl, by decide +kernel, by decide +kernel⟩
def spInit (K : PySem.W.Frag) (C : Addr) : Sp := fun vs H Q _ => ∃ (a : Addr) (v : V), vs = [.ref a, v] ∧ H a = some (exo a C none) ∧ OexC K C ∧ PySem.W.findIn K (.ref C) "text" = some none ∧
  ∀ d, H d = none → d ≠ a → Q .non (upd (upd H d (exd d [("text", v)])) a (exo a C (some d)))
theorem ok_init {f C : Addr} {fd : FuncData} (F : Fun K "__init__" "BadPattern.__init__" sBPInit f fd) : FnOk P w K mg base CX0 1 f fd ["self", "text"] (spInit K C) := by
  refine F.ok scInit (fun vs H Q E h => ?_) (fun cdv A outer s H vs Q E hr h => ?_)
  · obtain ⟨a, v, rfl, _⟩ := h; rfl
  · obtain ⟨a, v, rfl, ha, o, fp, q⟩ := h
    refine ⟨_, pss_one (ps_ost (pv 0) (pv 1)), ?_⟩
    exact ⟨_, rfl, _, rfl, a, C, rfl, o, fp, .inl ⟨ha, fun dx h1 h2 => q dx h1 h2⟩⟩
/-- raise BadPattern(place): the heap behind it -/
theorem heap_raised {H : Hp} {a d C : Addr} {v : V} (ha : H a = none) (hd : H d = none) (hne : d ≠ a) :
    upd (del (upd (upd (upd H a (exo a C none)) d (exd d [("text", v)])) a (exo a C (some d))) a) d (.xd [("text", v)]) = upd H d (.xd [("text", v)]) := by
  funext b
  by_cases h1 : b = d
  · subst h1; rw [upd_same, upd_same]
  · rw [upd_ne h1, upd_ne h1]
    by_cases h2 : b = a
    · subst h2; rw [del_same, ha]
    · rw [del_ne h2, upd_ne h2, upd_ne h1, upd_ne h2]
theorem raise_bp {C : Addr} {v : V} {H : Hp} {Q : XK} (o : OexC K C) (fp : PySem.W.findIn K (.ref C) "text" = some none) (q : ∀ d, H d = none → Q (.ref C) (some d) (upd H d (.xd [("text", v)]))) :
    [v].length ≤ 1000 ∧ ∀ a, H a = none → spInit K C (.ref a :: ([v] ++ [])) (upd H a (exo a C none))
      (fun u H2 => u = .non ∧ ∃ (d : Addr) (fs : List (Str × V)), H2 a = some (exo a C (some d)) ∧ H2 d = some (exd d fs) ∧ H d = none ∧ Q (.ref C) (some d) (upd (del H2 a) d (.xd fs))) (fun _ _ _ => False) := by
  refine ⟨by show 1 ≤ 1000; decide, fun a ha => ⟨a, v, rfl, upd_same, o, fp, fun d h1 hne => ⟨rfl, d, [("text", v)], upd_same, ?_, ?_, ?_⟩⟩⟩
  · rw [upd_ne hne, upd_same]
  · rw [upd_ne hne] at h1; exact h1
  · rw [upd_ne hne] at h1
    rw [heap_raised ha h1 hne]; exact q d h1
end
/-! ### an attribute among the targets -/
theorem pg_att {X : Cx} {o : Expr} {f : Str} {to : TE} {pos : Pos} (ho : PE X o to)
    (ha : ∀ v, assign (.Attribute o f pos) X.env v = (do
      let ov ← holding [v] (eval o X.env)
      standAt pos.atName
      holding [v, ov] (setAttr ov f v)
      release [v, ov] []) := by intro _; rfl) :
    PG X (.Attribute o f pos) (fun v σ H Q => to σ H fun x H1 => ∃ a C dx fs, x = .ref a ∧ H1 a = some (.ins C dx fs) ∧ Cls X.K C ∧ NoAttr X.K C f ∧ fs.length < 1000 ∧ Q σ (upd H1 a (.ins C dx (putF f v fs)))) := by
  refine ⟨fun pins s σ H v u Q I r h => ?_⟩
  rw [ha]
  refine wpAny_bind (wpAny_holding (thn (ho.run pins s σ H _ I h) fun ov s1 ⟨x, H1, I1, r1, a, C, dx, fs, ex, ea, c, n, l, q⟩ => ?_))
  subst ex
  obtain rfl : ov = Value.ref a := r1
  refine wpAny_bind (wpAny_standAt (wpAny_bind (wpAny_holding (setattr_ok I1 ea c n l r fun s3 I3 => ?_))))
  exact wpAny_release ⟨σ, _, I3, q⟩
structure Txt (K : PySem.W.Frag) (mg : Str → Option Value) (CP : Addr) : Prop where
  cl : Cls K CP
  nT : NoAttr K CP "tests"
  nL : NoAttr K CP "links"
  nX : NoAttr K CP "_text"
  mgC : mg "Pattern" = some (.ref CP)
/-- the class says what isinstance asks -/
structure Isi (K : PySem.W.Frag) (C : Addr) : Prop where
  cl : Cls K C
  ha : PySem.W.findIn K (.ref C) "__class__" = some (some (.builtin "object.__class__"))
  hn : PySem.W.specialIn K (.builtin "object.__class__") "__get__" = some (some (.builtin "getset_descriptor.__get__"))
  ht : PySem.W.takesIn K (.builtin "object.__class__") = some true
  hm : PySem.W.mroIn K C (.type "object") = some true
  ks : PySem.W.kitOne K (.ref C) (.ref C) = some true
theorem str_kit {K : PySem.W.Frag} {C : Addr} : PySem.W.subIn K (.type "str") (.ref C) = some false := R7.sub_str
def PatAt (CP : Addr) (H : Hp) (p : Addr) (ts : List Tst) (z : Str) : Prop := ∃ dx fs a us, H p = some (.ins CP dx fs) ∧ fs.lookup ("tests" : Str) = some (.ref a) ∧ fs.lookup ("_text" : Str) = some (.str z) ∧ H a = some (.tup us) ∧ TstsAt H us ts
theorem PatAt.same {CP : Addr} {H H' : Hp} {p : Addr} {ts : List Tst} {z : Str} (h : PatAt CP H p ts z) (s : Same H H') : PatAt CP H' p ts z := by
  obtain ⟨dx, fs, a, us, h1, h2, h3, h4, h5⟩ := h
  exact ⟨dx, fs, a, us, s _ _ h1, h2, h3, s _ _ h4, h5.same s⟩
section
variable {P : Program} {w : World} {K : PySem.W.Frag} {mg : Str → Option Value} {base : Heap} {t1 t2 t3 t4 t5 t6 : Tok}
/-! ### Pattern.__init__ -/
def spPInit (CP C : Addr) : Sp := fun vs H Q E => ∃ (p dx : Addr) (z : Str), vs = [.ref p, .str z] ∧ H p = some (.ins CP dx []) ∧ z.length ≤ 900 ∧
  (rdT (wds z) = none → ∀ H1 d, Same H H1 → H1 d = none → E (.ref C) (some d) (upd H1 d (.xd [("text", .str z)]))) ∧
  ∀ ts, rdT (wds z) = some ts → ∀ H', (∀ b o, b ≠ p → H b = some o → H' b = some o) → PatAt CP H' p ts z → Q .non H'
theorem scPInit : FnScope ["self", "text", "told"] ["self", "text"] (defScope sPInit) := ⟨rfl, rfl, rfl, by decide +kernel, rfl, by decide +kernel, by decide +kernel⟩
theorem ok_pinit {CP C fI f f_read_tests f_read_test f_is_name f_name_end f_is_letter : Addr} {fd fdI fd_read_tests fd_read_test fd_is_name fd_name_end fd_is_letter : FuncData} (B : Blt mg) (Z : Cst mg t1 t2 t3 t4 t5 t6) (T : Txt K mg CP) (N : BadP K mg C fI fdI) (F : Fun K "__init__" "Pattern.__init__" sPInit f fd)
    (F_read_tests : Fun K "_read_tests" "_read_tests" sTests f_read_tests fd_read_tests) (b_read_tests : Binds K fd_read_tests ["text"] []) (g_read_tests : mg "_read_tests" = some (.ref f_read_tests))
    (F_read_test : Fun K "_read_test" "_read_test" sTest f_read_test fd_read_test) (b_read_test : Binds K fd_read_test ["word"] []) (g_read_test : mg "_read_test" = some (.ref f_read_test))
    (F_is_name : Fun K "is_name" "is_name" sIsName f_is_name fd_is_name) (b_is_name : Binds K fd_is_name ["text"] []) (g_is_name : mg "is_name" = some (.ref f_is_name))
    (F_name_end : Fun K "name_end" "name_end" sNameEnd f_name_end fd_name_end) (b_name_end : Binds K fd_name_end ["text", "start"] []) (g_name_end : mg "name_end" = some (.ref f_name_end))
    (F_is_letter : Fun K "is_letter" "is_letter" sLetter f_is_letter fd_is_letter) (b_is_letter : Binds K fd_is_letter ["char"] []) (g_is_letter : mg "is_letter" = some (.ref f_is_letter)) :
    FnOk P w K mg base (L2.CX P w) 6 f fd ["self", "text"] (spPInit CP C) := by
  have G_read_tests : FnOk P w K mg base CX0 5 f_read_tests fd_read_tests ["text"] spTests := ok_tests B Z F_read_tests F_read_test b_read_test g_read_test F_is_name b_is_name g_is_name F_name_end b_name_end g_name_end F_is_letter b_is_letter g_is_letter
  have GI : FnOk P w K mg base CX0 1 fI fdI ["self", "text"] (spInit K C) := ok_init N.F
  refine F.okX scPInit (fun vs H Q E h => ?_) (fun cdv A0 outer s H vs Q E hr h => ?_)
  · obtain ⟨p, dx, z, rfl, _⟩ := h; rfl
  · obtain ⟨p, dx, z, rfl, hp, hzl, qe, q⟩ := h
    have hr1 : Room 2 _ := hr.mono (by decide)
    refine ⟨_, pss_cons (ps_set (i := 2) scPInit.nd rfl (.inl rfl) (pe_call G_read_tests hr (by rfl) g_read_tests F_read_tests.kp b_read_tests .nil pass0 (pa_cons (pv 1) pa_nil)))
      (pss_cons (ps_if (pt_cmpR op_isN (pv 2) pe_non (nomark _)) (pss_one (ps_raise rfl (takes_of rfl rfl rfl rfl) (pmk_oex N.oex N.iC N.tI GI hr1 N.b .nil pass0 (by rfl) N.gC (pa_cons (pv 1) pa_nil)))) pss_nil)
      (pss_cons (ps_fld (pv 0) (pv 1) rfl)
      (pss_one (ps_asg (pv 2) (pg_tup rfl (pgs_cons (pg_att (pv 0)) (pgs_cons (pg_att (pv 0)) pgs_nil))))))), ?_⟩
    refine ⟨.str z, rfl, z, rfl, hzl, fun hno H1 s1 => ?_, fun ts hts H1 r a b us bs s1 hr1 h1 h2 h3 => ?_⟩
    · refine ⟨.non, rfl, rfl, _, rfl, iteT ⟨_, rfl, raise_bp N.oex N.fp fun d hd => qe hno H1 d s1 hd⟩⟩
    refine ⟨.ref r, rfl, rfl, _, rfl, iteF ?_⟩
    have hp1 := s1 _ _ hp
    have nrp : r ≠ p := ne_of hr1 hp1 (by intro z; cases z)
    refine ⟨.str z, rfl, .ref p, rfl, p, CP, dx, [], rfl, hp1, T.cl, T.nX, by show 0 < 1000; decide, ?_⟩
    have nap : a ≠ p := ne_of h1 hp1 (by intro z; cases z)
    have nbp : b ≠ p := ne_of h3 hp1 (by intro z; cases z)
    refine ⟨.ref r, rfl, r, _, rfl, SqT.of (by rw [upd_ne nrp]; exact hr1), rfl, .ref a, _, rfl, .ref p, rfl, p, CP, dx, _, rfl, upd_same, T.cl, T.nT, by show 1 < 1000; decide, .ref b, _, rfl, .ref p, rfl, p, CP, dx, _, rfl, upd_same, T.cl, T.nL, by show 2 < 1000; decide, rfl, ?_⟩
    have tt : ∀ c ys, H1 c = some (.tup ys) → ∀ o1 o2 o3, upd (upd (upd H1 p o1) p o2) p o3 c = some (.tup ys) := fun c ys h o1 o2 o3 => by
      have : c ≠ p := ne_of h hp1 (by intro z; cases z)
      rw [upd_ne this, upd_ne this, upd_ne this]; exact h
    refine q ts hts _ (fun c o h e => by rw [upd_ne h, upd_ne h, upd_ne h]; exact s1 _ _ e) ⟨dx, _, a, us, upd_same, ?_, ?_, tt _ _ h1 _ _ _, h2.tups fun c ys h => tt _ _ h _ _ _⟩
    · rw [lookup_putF, if_neg (by decide +kernel), lookup_putF, if_pos rfl]
    · rw [lookup_putF, if_neg (by decide +kernel), lookup_putF, if_neg (by decide +kernel), lookup_putF, if_pos rfl]
/-! ### asked, named, len, str, == -/
theorem countT (p : Tst → Bool) (ts : List Tst) {n : Nat} {x : Tst} (h : ts[n]? = some x) : ((ts.take (n + 1)).filter p).length = ((ts.take n).filter p).length + (if p x = true then 1 else 0) := by
  rw [List.take_add_one, h, List.filter_append, List.length_append]
  cases hp : p x <;> simp [hp]
def asks (x : Tst) : Bool := !decide (tl x.2 = [])
def names (x : Tst) : Bool := !decide (x.1 = starS)
def spCount (CP : Addr) (f : List Tst → Nat) : Sp := fun vs H Q _ => ∃ (p : Addr) (ts : List Tst) (z : Str), vs = [.ref p] ∧ PatAt CP H p ts z ∧ ts.length ≤ 4 ∧ ∀ H', Same H H' → Q (.int ((f ts : Nat) : Int)) H'
abbrev nAs : List Str := ["self", "kind", "mark"]
theorem scAsked : FnScope nAs ["self"] (defScope sAsked) := ⟨rfl, rfl, rfl, by decide +kernel, rfl, by decide +kernel, by decide +kernel⟩
theorem scNamed : FnScope nAs ["self"] (defScope sNamed) := ⟨rfl, rfl, rfl, by decide +kernel, rfl, by decide +kernel, by decide +kernel⟩
theorem ok_asked {CP f : Addr} {fd : FuncData} (B : Blt mg) (T : Txt K mg CP) (F : Fun K "asked" "Pattern.asked" sAsked f fd) : FnOk P w K mg base CX0 1 f fd ["self"] (spCount CP fun ts => (ts.filter asks).length) := by
  refine F.ok scAsked (fun vs H Q E h => ?_) (fun cdv A0 outer s H vs Q E hr h => ?_)
  · obtain ⟨p, ts, z, rfl, _⟩ := h; rfl
  · obtain ⟨p, ts, z, rfl, ⟨dx, fs, a, us, hp, f1, f2, ha, hT⟩, h4, q⟩ := h
    refine ⟨_, (pss_one (ps_ret (pe_callB call_len (by rfl) B.len PySem.boot_len (pa_cons (pe_lc (own := [("kind", 1), ("mark", 2)]) (g := gTup K 2 (gCons (gName 1) (gCons (gName 2) gNil))) rfl scAsked.nd (pi_tup (pe_fld (pv 0) rfl)) (blkOk_by (N := nAs) (sc := defScope sAsked) (by decide +kernel)) (fun _ _ _ _ _ => (pg_tup rfl (pgs_cons (pg_name (i := 1) scAsked.nd rfl (.inl rfl)) (pgs_cons (pg_name (i := 2) scAsked.nd rfl (.inl rfl)) pgs_nil)))) (fun _ _ _ _ _ => pts_one (pt_cmpR op_ne (pv 2) pe_str (nomark _))) (fun _ _ _ _ _ => (pv 2))) pa_nil)))), ?_⟩
    refine ⟨.ref p, rfl, p, CP, dx, fs, .ref a, rfl, hp, T.cl, T.nT, f1, a, rfl, ⟨_, SqT.of ha⟩, fun D hD => ?_⟩
    have sD := same_new hD (o := .lst [])
    refine lc_tup (K := K) (a := a) (xs := us) (fun n H' => ∃ ys : List V, H' D = some (.lst ys) ∧ ys.length = ((ts.take n).filter asks).length ∧ Same H H') ⟨[], upd_same, rfl, same_new hD⟩ (fun n H' _ ⟨_, _, _, sm⟩ => SqT.of (sm _ _ ha)) ?_ ?_
    · rintro n v H' hn ⟨ys, hy, hyl, sm⟩
      have hlt : n < ts.length := by have := (List.getElem?_eq_some_iff.mp hn).1; rw [hT.1] at this; exact this
      have hx : ts[n]? = some (ts[n]'hlt) := List.getElem?_eq_getElem _
      generalize ts[n]'hlt = x at hx
      obtain ⟨t, rfl, ht⟩ := hT.2 n v x hn hx
      have hc := countT asks ts hx
      have hle : ((ts.take n).filter asks).length ≤ 4 := Nat.le_trans (List.length_filter_le _ _) (by rw [List.length_take]; omega)
      refine ⟨t, _, rfl, SqT.of (sm _ _ ht), rfl, .str x.1, _, rfl, .str x.2, _, rfl, rfl, rfl, .str x.2, rfl, rfl, _, rfl, ?_⟩
      rw [eqE]
      cases hb : decide (tl x.2 = []) with
      | true =>
        refine iteF ⟨ys, hy, ?_, sm⟩
        rw [hc, hyl]; unfold asks; rw [hb]; rfl
      | false =>
        refine iteT ⟨.str x.2, rfl, ys, hy, small1000 (by omega), ys ++ [.str x.2], upd_same, ?_, same_at sm hD⟩
        rw [hc, List.length_append, hyl]; unfold asks; rw [hb]; rfl
    · rintro H' ⟨ys, hy, hyl, sm⟩
      rw [hT.1, List.take_length] at hyl
      refine ⟨.ref D, ys.length, rfl, .inl ⟨_, SqL.of hy, rfl⟩, ?_⟩
      rw [hyl]
      exact q _ sm
end
end K10

set_option maxRecDepth 100000
set_option maxHeartbeats 4000000
namespace K10
open PySem PySem.Spec PyProof.Rows L2 PySem.W PySem.Calls
def letters : Str := Str.ofString "abcdefghijklmnopqrstuvwxyz"
theorem letters_L : ∀ c ∈ tl letters, isL c = true := by decide +kernel
theorem letters_len : letters.length = 26 := by decide +kernel
theorem letters_all : ∀ k : Nat, k < 26 → 97 + k ∈ tl letters := by decide +kernel
theorem in_letters (c : Nat) : decide (c ∈ letters.cps.toList) = isL c := by
  cases h : isL c with
  | true =>
    refine decide_eq_true ?_
    unfold isL at h
    rw [Bool.and_eq_true, decide_eq_true_iff, decide_eq_true_iff] at h
    have := letters_all (c - 97) (by omega)
    rw [show 97 + (c - 97) = c by omega] at this
    exact this
  | false =>
    refine decide_eq_false fun hm => ?_
    have := letters_L c hm
    rw [h] at this; cases this
theorem nin_letters (c : Nat) : (!decide (c ∈ letters.cps.toList)) = !isL c := by rw [in_letters]

section
variable {P : Program} {w : World} {K : PySem.W.Frag} {mg : Str → Option Value} {base : Heap} {t1 t2 t3 t4 t5 t6 : Tok}
theorem ok_named {CP f : Addr} {fd : FuncData} (B : Blt mg) (Z : Cst mg t1 t2 t3 t4 t5 t6) (T : Txt K mg CP) (F : Fun K "named" "Pattern.named" sNamed f fd) : FnOk P w K mg base CX0 1 f fd ["self"] (spCount CP fun ts => (ts.filter names).length) := by
  refine F.ok scNamed (fun vs H Q E h => ?_) (fun cdv A0 outer s H vs Q E hr h => ?_)
  · obtain ⟨p, ts, z, rfl, _⟩ := h; rfl
  · obtain ⟨p, ts, z, rfl, ⟨dx, fs, a, us, hp, f1, f2, ha, hT⟩, h4, q⟩ := h
    refine ⟨_, (pss_one (ps_ret (pe_callB call_len (by rfl) B.len PySem.boot_len (pa_cons (pe_lc (own := [("kind", 1), ("mark", 2)]) (g := gTup K 2 (gCons (gName 1) (gCons (gName 2) gNil))) rfl scNamed.nd (pi_tup (pe_fld (pv 0) rfl)) (blkOk_by (N := nAs) (sc := defScope sNamed) (by decide +kernel)) (fun _ _ _ _ _ => (pg_tup rfl (pgs_cons (pg_name (i := 1) scNamed.nd rfl (.inl rfl)) (pgs_cons (pg_name (i := 2) scNamed.nd rfl (.inl rfl)) pgs_nil)))) (fun _ _ _ _ _ => pts_one (pt_cmpR op_ne (pv 1) (pe_glob (v := .str (Str.ofString "*")) (by rfl) Z.g_ANY_KIND ⟨_, rfl⟩) (nomark _))) (fun _ _ _ _ _ => (pv 1))) pa_nil)))), ?_⟩
    refine ⟨.ref p, rfl, p, CP, dx, fs, .ref a, rfl, hp, T.cl, T.nT, f1, a, rfl, ⟨_, SqT.of ha⟩, fun D hD => ?_⟩
    refine lc_tup (K := K) (a := a) (xs := us) (fun n H' => ∃ ys : List V, H' D = some (.lst ys) ∧ ys.length = ((ts.take n).filter names).length ∧ Same H H') ⟨[], upd_same, rfl, same_new hD⟩ (fun n H' _ ⟨_, _, _, sm⟩ => SqT.of (sm _ _ ha)) ?_ ?_
    · rintro n v H' hn ⟨ys, hy, hyl, sm⟩
      have hlt : n < ts.length := by have := (List.getElem?_eq_some_iff.mp hn).1; rw [hT.1] at this; exact this
      have hx : ts[n]? = some (ts[n]'hlt) := List.getElem?_eq_getElem _
      generalize ts[n]'hlt = x at hx
      obtain ⟨t, rfl, ht⟩ := hT.2 n v x hn hx
      have hc := countT names ts hx
      have hle : ((ts.take n).filter names).length ≤ 4 := Nat.le_trans (List.length_filter_le _ _) (by rw [List.length_take]; omega)
      refine ⟨t, _, rfl, SqT.of (sm _ _ ht), rfl, .str x.1, _, rfl, .str x.2, _, rfl, rfl, rfl, .str x.1, rfl, rfl, _, rfl, ?_⟩
      have e1 : decide (V.str x.1 = V.str (Str.ofString "*")) = decide (x.1 = starS) := by
        refine decide_eq_decide.mpr ⟨fun e => by injection e, fun e => by rw [e]; rfl⟩
      rw [e1]
      cases hb : decide (x.1 = starS) with
      | true =>
        refine iteF ⟨ys, hy, ?_, sm⟩
        rw [hc, hyl]; unfold names; rw [hb]; rfl
      | false =>
        refine iteT ⟨.str x.1, rfl, ys, hy, small1000 (by omega), ys ++ [.str x.1], upd_same, ?_, same_at sm hD⟩
        rw [hc, List.length_append, hyl]; unfold names; rw [hb]; rfl
    · rintro H' ⟨ys, hy, hyl, sm⟩
      rw [hT.1, List.take_length] at hyl
      refine ⟨.ref D, ys.length, rfl, .inl ⟨_, SqL.of hy, rfl⟩, ?_⟩
      rw [hyl]
      exact q _ sm
def spPLen (CP : Addr) : Sp := fun vs H Q _ => ∃ (p : Addr) (ts : List Tst) (z : Str), vs = [.ref p] ∧ PatAt CP H p ts z ∧ Q (.int ((ts.length : Nat) : Int)) H
theorem scPLen : FnScope ["self"] ["self"] (defScope sPLen) := ⟨rfl, rfl, rfl, by decide +kernel, rfl, by decide +kernel, by decide +kernel⟩
theorem ok_plen {CP f : Addr} {fd : FuncData} (B : Blt mg) (T : Txt K mg CP) (F : Fun K "__len__" "Pattern.__len__" sPLen f fd) : FnOk P w K mg base CX0 1 f fd ["self"] (spPLen CP) := by
  refine F.ok scPLen (fun vs H Q E h => ?_) (fun cdv A0 outer s H vs Q E hr h => ?_)
  · obtain ⟨p, ts, z, rfl, _⟩ := h; rfl
  · obtain ⟨p, ts, z, rfl, ⟨dx, fs, a, us, hp, f1, f2, ha, hT⟩, q⟩ := h
    refine ⟨_, (pss_one (ps_ret (pe_callB call_len (by rfl) B.len PySem.boot_len (pa_cons (pe_fld (pv 0) rfl) pa_nil)))), ?_⟩
    refine ⟨.ref p, rfl, p, CP, dx, fs, .ref a, rfl, hp, T.cl, T.nT, f1, .ref a, us.length, rfl, .inr ⟨_, SqT.of ha, rfl⟩, ?_⟩
    rw [hT.1]; exact q
def spPStr (CP : Addr) : Sp := fun vs H Q _ => ∃ (p : Addr) (ts : List Tst) (z : Str), vs = [.ref p] ∧ PatAt CP H p ts z ∧ Q (.str z) H
theorem scPStr : FnScope ["self"] ["self"] (defScope sPStr) := ⟨rfl, rfl, rfl, by decide +kernel, rfl, by decide +kernel, by decide +kernel⟩
theorem ok_pstr {CP f : Addr} {fd : FuncData} (B : Blt mg) (T : Txt K mg CP) (F : Fun K "__str__" "Pattern.__str__" sPStr f fd) : FnOk P w K mg base CX0 1 f fd ["self"] (spPStr CP) := by
  refine F.ok scPStr (fun vs H Q E h => ?_) (fun cdv A0 outer s H vs Q E hr h => ?_)
  · obtain ⟨p, ts, z, rfl, _⟩ := h; rfl
  · obtain ⟨p, ts, z, rfl, ⟨dx, fs, a, us, hp, f1, f2, ha, hT⟩, q⟩ := h
    refine ⟨_, (pss_one (ps_ret (pe_callTy SkE.call_str_str (by rfl) B.str (by decide +kernel) (pa_cons (pe_fld (pv 0) rfl) pa_nil)))), ?_⟩
    exact ⟨.ref p, rfl, p, CP, dx, fs, .str z, rfl, hp, T.cl, T.nX, f2, z, rfl, q⟩
def spPEq (CP : Addr) : Sp := fun vs H Q _ => ∃ (p q : Addr) (ts us : List Tst) (z y : Str), vs = [.ref p, .ref q] ∧ PatAt CP H p ts z ∧ PatAt CP H q us y ∧ Q (.bl (decide (z = y))) H
theorem scPEq : FnScope ["self", "other"] ["self", "other"] (defScope sPEq) := ⟨rfl, rfl, rfl, by decide +kernel, rfl, by decide +kernel, by decide +kernel⟩
theorem ok_peq {CP f : Addr} {fd : FuncData} (B : Blt mg) (T : Txt K mg CP) (S : Isi K CP) (F : Fun K "__eq__" "Pattern.__eq__" sPEq f fd) : FnOk P w K mg base CX0 1 f fd ["self", "other"] (spPEq CP) := by
  refine F.ok scPEq (fun vs H Q E h => ?_) (fun cdv A0 outer s H vs Q E hr h => ?_)
  · obtain ⟨p, r, ts, us, z, y, rfl, _⟩ := h; rfl
  · obtain ⟨p, r, ts, us, z, y, rfl, ⟨dx, fs, a, xs, hp, f1, f2, ha, hT⟩, ⟨dy, gs, b, ys, hr', g1, g2, hb, hU⟩, q⟩ := h
    refine ⟨_, (pss_cons (ps_if (pt_not (pt_val (pe_callB call_isi (by rfl) B.isi (by decide +kernel) (pa_cons (pv 1) (pa_cons (pe_glob (v := .ref CP) (by rfl) T.mgC rfl) pa_nil)))))
      (pss_one ps_never)
      pss_nil)
      (pss_one (ps_ret (pe_cmpR op_eq (pe_fld (pv 0) rfl) (pe_fld (pv 1) rfl) (nomark _))))), ?_⟩
    refine ⟨.ref r, rfl, .ref r, .ref CP, .ref CP, .ref CP, true, rfl, .own CP, .base (.ins hr' S.cl S.ha S.hn S.ht S.hm), S.ks, _, rfl, iteF ?_⟩
    refine ⟨.ref p, rfl, p, CP, dx, fs, .str z, rfl, hp, T.cl, T.nX, f2, .ref r, rfl, r, CP, dy, gs, .str y, rfl, hr', T.cl, T.nX, g2, rfl, ?_⟩
    rw [show decide (V.str z = V.str y) = decide (z = y) from decide_eq_decide.mpr ⟨fun e => by injection e, fun e => by rw [e]⟩]
    exact q
/-- == asked of a text -/
def niR : List V → Hp → (Hp → Prop) → Prop := fun vs H Rh => ∃ (p : Addr) (z : Str), vs = [.ref p, .str z] ∧ Rh H
theorem ni_peq {CP f : Addr} {fd : FuncData} (B : Blt mg) (T : Txt K mg CP) (hk : PySem.W.kitOne K (.type "str") (.ref CP) = some false) (hni : mg "NotImplemented" = none) (F : Fun K "__eq__" "Pattern.__eq__" sPEq f fd) (b : Binds K fd ["self", "other"] []) : R7.NiOk P w K mg base 1 f niR := by
  obtain ⟨oc, od, kV, doc, pm, an, cdv, ct, osl, rfl, lk, hcd⟩ := F.ex
  refine R7.ni_of lk hcd scPEq rfl b (fun vs H Rh h => ?_) hni (fun _ _ _ _ => by rfl) (fun A outer s H vs Rh hr h => ?_)
  · obtain ⟨p, z, rfl, _⟩ := h; rfl
  · obtain ⟨p, z, rfl, q⟩ := h
    refine ⟨_, (pt_not (pt_val (pe_callB call_isi (by rfl) B.isi (by decide +kernel) (pa_cons (pv 1) (pa_cons (pe_glob (v := .ref CP) (by rfl) T.mgC rfl) pa_nil))))), ?_⟩
    exact ⟨.str z, rfl, .str z, .ref CP, .type "str", .ref CP, false, rfl, .own CP, .base (.str z), hk, _, rfl, rfl, q⟩
/-! ### _law_number, _law_name -/
def spNumber : Sp := fun vs H Q _ => ∃ i : Int, vs = [.int i] ∧ Q (.bl true) H
theorem scNumber : FnScope ["_law_value"] ["_law_value"] (defScope sNumber) := ⟨rfl, rfl, rfl, by decide +kernel, rfl, by decide +kernel, by decide +kernel⟩
theorem ok_number {f : Addr} {fd : FuncData} (B : Blt mg) (F : Fun K "_law_number" "_law_number" sNumber f fd) : FnOk P w K mg base CX0 1 f fd ["_law_value"] spNumber := by
  refine F.ok scNumber (fun vs H Q E h => ?_) (fun cdv A0 outer s H vs Q E hr h => ?_)
  · obtain ⟨i, rfl, _⟩ := h; rfl
  · obtain ⟨i, rfl, q⟩ := h
    refine ⟨_, (pss_one (ps_ret (pe_and (pe_callB call_isi (by rfl) B.isi (by decide +kernel) (pa_cons (pv 0) (pa_cons (pe_bltn (v := .ty "int") (by rfl) B.int (by decide +kernel) rfl) pa_nil))) (pe_one (pe_not (pe_callB call_isi (by rfl) B.isi (by decide +kernel) (pa_cons (pv 0) (pa_cons (pe_bltn (v := .ty "bool") (by rfl) B.bool (by decide +kernel) rfl) pa_nil)))))))), ?_⟩
    exact ⟨.int i, rfl, .int i, .ty "int", .type "int", .type "int", true, rfl, .ty "int", .base (.int i), kit_ty (by decide +kernel), _, rfl, iteT ⟨.int i, rfl, .int i, .ty "bool", .type "int", .type "bool", false, rfl, .ty "bool", .base (.int i), kit_ty (by decide +kernel), _, rfl, q⟩⟩
def spLName : Sp := fun vs H Q _ => ∃ z : Str, vs = [.str z] ∧ z.length ≤ 1000 ∧ Q (.bl (nameB (tl z))) H
theorem scLName : FnScope ["_law_text", "_law_char"] ["_law_text"] (defScope sLName) := ⟨rfl, rfl, rfl, by decide +kernel, rfl, by decide +kernel, by decide +kernel⟩
theorem ok_lname {f : Addr} {fd : FuncData} (B : Blt mg) (F : Fun K "_law_name" "_law_name" sLName f fd) : FnOk P w K mg base CX0 1 f fd ["_law_text"] spLName := by
  refine F.ok scLName (fun vs H Q E h => ?_) (fun cdv A0 outer s H vs Q E hr h => ?_)
  · obtain ⟨z, rfl, _⟩ := h; rfl
  · obtain ⟨z, rfl, hz, q⟩ := h
    refine ⟨_, (pss_cons (ps_for (PassesOwn.never) rfl (pi_str (pv 0)) (pg_name (i := 1) scLName.nd rfl (.inl rfl))
      (pss_one (ps_if (pt_cmpR op_notIn_sign (pv 1) pe_str (by with_unfolding_all rfl))
       (pss_one (ps_ret pe_bl))
       pss_nil)))
      (pss_one (ps_ret (pe_and (pe_cmpR op_le pe_int (pe_callB call_len (by rfl) B.len PySem.boot_len (pa_cons (pv 0) pa_nil)) (nomark _)) (pe_one (pe_cmpR op_le (pe_callB call_len (by rfl) B.len PySem.boot_len (pa_cons (pv 0) pa_nil)) pe_int (nomark _))))))), ?_⟩
    refine ⟨.str z, rfl, z, rfl, for_it walk_str (fun i σ H' => ∃ y1, σ = [some (.str z), y1] ∧ H' = H ∧ ∀ (j : Nat) c, j < i → (tl z)[j]? = some c → isL c = true) ⟨none, rfl, rfl, fun j c h => absurd h (Nat.not_lt_zero j)⟩ (fun _ _ _ _ _ => trivial) ?_ ?_⟩
    · rintro i v σ H1 H2 hi ⟨y1, rfl, rfl, hall⟩ ⟨rfl, c, hc, rfl⟩
      have hc' : (tl z)[i]? = some c := by simpa [tl] using hc
      refine ⟨.str ⟨#[c]⟩, rfl, c, letters, rfl, rfl, _, rfl, ?_⟩
      rw [nin_letters]
      refine ite2 (fun h => ?_) (fun h => ?_)
      · have h' : isL c = false := by simpa using h
        have e : (tl z).all isL = false := by
          rw [List.all_eq_false]
          exact ⟨c, List.mem_of_getElem? hc', by rw [h']; exact Bool.false_ne_true⟩
        unfold nameB at q
        rw [e, Bool.and_false] at q
        exact q
      · refine ⟨_, rfl, rfl, fun j d hj hd => ?_⟩
        by_cases hji : j < i
        · exact hall j d hji hd
        · obtain rfl : j = i := by omega
          rw [hc'] at hd; cases hd
          simpa using h
    · rintro σ H1 ⟨y1, rfl, rfl, hall⟩
      have e : (tl z).all isL = true := by
        rw [List.all_eq_true]
        intro c hc
        obtain ⟨j, hj⟩ := List.mem_iff_getElem?.mp hc
        exact hall j c (by have := (List.getElem?_eq_some_iff.mp hj).1; simpa [tl, Str.length] using this) hj
      unfold nameB at q
      rw [e, Bool.and_true, tl_len] at q
      refine ⟨.str z, rfl, .str z, z.length, rfl, ⟨by rw [sizeLine_eq]; omega, rfl⟩, 1, _, rfl, rfl, _, rfl, ?_⟩
      have e1 : decide ((1 : Int) ≤ ((z.length : Nat) : Int)) = decide (1 ≤ z.length) := decide_eq_decide.mpr (by omega)
      rw [e1]
      by_cases h1 : 1 ≤ z.length
      · rw [decide_eq_true h1] at q ⊢
        refine iteT ⟨.str z, rfl, .str z, z.length, rfl, ⟨by rw [sizeLine_eq]; omega, rfl⟩, _, 8, rfl, rfl, ?_⟩
        have e2 : decide (((z.length : Nat) : Int) ≤ (8 : Int)) = decide (z.length ≤ 8) := decide_eq_decide.mpr (by omega)
        show Q (.bl (decide (((z.length : Nat) : Int) ≤ (8 : Int)))) H1
        rw [e2]
        simpa using q
      · rw [decide_eq_false h1] at q ⊢
        exact iteF (by simpa using q)
end
end K10

set_option maxRecDepth 100000
set_option maxHeartbeats 4000000
namespace K10
open PySem PySem.Spec PyProof.Rows L2
theorem tk_len {l a b : List Nat} (h : l = a ++ 46 :: b) : l.take a.length = a ∧ l.drop (a.length + 1) = b ∧ l[a.length]? = some 46 := by
  subst h
  refine ⟨List.take_left, ?_, ?_⟩
  · rw [show a.length + 1 = (a ++ [46]).length by rw [List.length_append]; rfl, show a ++ 46 :: b = (a ++ [46]) ++ b by simp, List.drop_left]
  · rw [List.getElem?_append_right (Nat.le_refl _), Nat.sub_self]; rfl
/-! ### text.find('.') -/
theorem find_word (z : Str) : Txt.find z dotS = if dB (tl z) = true then (((kL (tl z)).length : Nat) : Int) else -1 := by
  have ed : dotS = ⟨#[46]⟩ := str_of tl_dot
  rw [ed]
  unfold Txt.find
  rcases PySem.StrLaws.occ_head z ⟨#[46]⟩ 1 (Nat.le_refl 1) with ⟨h0, hn⟩ | ⟨i, r, h0, hi, hn⟩
  · rw [h0]
    have hd : dB (tl z) = false := by
      refine decide_eq_false fun hm => ?_
      obtain ⟨j, hj⟩ := List.mem_iff_getElem?.mp hm
      exact hn j ((PySem.StrLaws.subAt_one z 46 j).mpr hj)
    rw [hd]; rfl
  · rw [h0]
    have hi' : (tl z)[i]? = some 46 := (PySem.StrLaws.subAt_one z 46 i).mp hi
    have hd : dB (tl z) = true := decide_eq_true (List.mem_of_getElem? hi')
    rw [hd, if_pos rfl]
    have hc := cut_dot hd
    have hk : (tl z)[(kL (tl z)).length]? = some 46 := (tk_len hc).2.2
    have h1 : ¬ (kL (tl z)).length < i := fun h => hn _ h ((PySem.StrLaws.subAt_one z 46 _).mpr hk)
    have h2 : ¬ i < (kL (tl z)).length := fun h => by
      have h3 : (kL (tl z))[i]? = some 46 := by
        have h4 := hi'
        rw [hc] at h4
        generalize kL (tl z) = a at h h4 ⊢
        rw [List.getElem?_append_left h] at h4; exact h4
      exact kL_free _ (List.mem_of_getElem? h3)
    show ((i : Nat) : Int) = _
    omega
def PairsAt (H : Hp) (us : List V) (ts : List Tst) : Prop := us.length = ts.length ∧ ∀ (i : Nat) (v : V) (x : Tst), us[i]? = some v → ts[i]? = some x → ∃ t, v = .ref t ∧ H t = some (.tup [.bl (names x), .bl (asks x)])
theorem PairsAt.nil {H : Hp} : PairsAt H [] [] := ⟨rfl, fun i v x h => by simp at h⟩
theorem PairsAt.tups {H H' : Hp} {us : List V} {ts : List Tst} (h : PairsAt H us ts) (s : SameT H H') : PairsAt H' us ts :=
  ⟨h.1, fun i v x a b => by obtain ⟨t, e, ht⟩ := h.2 i v x a b; exact ⟨t, e, s _ _ ht⟩⟩
theorem Same.tups {H H' : Hp} (s : Same H H') : SameT H H' := fun a xs h => s a _ h
theorem PairsAt.snoc {H : Hp} {us : List V} {ts : List Tst} {t : Addr} {x : Tst} (h : PairsAt H us ts) (ht : H t = some (.tup [.bl (names x), .bl (asks x)])) : PairsAt H (us ++ [.ref t]) (ts ++ [x]) := by
  refine ⟨by rw [List.length_append, List.length_append, h.1]; rfl, fun i v y hv hy => ?_⟩
  by_cases hi : i < us.length
  · rw [List.getElem?_append_left hi] at hv
    rw [List.getElem?_append_left (by rw [← h.1]; exact hi)] at hy
    exact h.2 i v y hv hy
  · rw [List.getElem?_append_right (by omega)] at hv
    rw [List.getElem?_append_right (by rw [← h.1]; omega), ← h.1] at hy
    have e : i - us.length = 0 := by
      have := (List.getElem?_eq_some_iff.mp hv).1
      simp at this; omega
    rw [e] at hv hy
    simp at hv hy; subst hv hy
    exact ⟨t, rfl, ht⟩
section
variable {P : Program} {w : World} {K : PySem.W.Frag} {mg : Str → Option Value} {base : Heap} {t1 t2 t3 t4 t5 t6 : Tok}
/-! ### _law_read -/
def spLRead : Sp := fun vs H Q _ => ∃ (z : Str), vs = [.str z] ∧ z.length ≤ 900 ∧ (rdT (wds z) = none → ∀ H', Same H H' → Q .non H') ∧
  ∀ ts, rdT (wds z) = some ts → ∀ H' p us, Same H H' → H' p = some (.lst us) → PairsAt H' us ts → Q (.ref p) H'
theorem scLRead : FnScope ["_law_text", "_law_tests", "_law_linked", "_law_word", "_law_dot", "_law_kind"] ["_law_text"] (defScope sRead) := ⟨rfl, rfl, rfl, by decide +kernel, rfl, by decide +kernel, by decide +kernel⟩
theorem eqW (a b : Str) : decide (V.str a = V.str b) = decide (a = b) := decide_eq_decide.mpr ⟨fun e => by injection e, fun e => by rw [e]⟩
theorem ok_lread {f f_name : Addr} {fd fd_name : FuncData} (B : Blt mg) (F : Fun K "_law_read" "_law_read" sRead f fd)
    (F_name : Fun K "_law_name" "_law_name" sLName f_name fd_name) (b_name : Binds K fd_name ["_law_text"] []) (g_name : mg "_law_name" = some (.ref f_name)) :
    FnOk P w K mg base CX0 2 f fd ["_law_text"] spLRead := by
  have G_name : FnOk P w K mg base CX0 1 f_name fd_name ["_law_text"] spLName := ok_lname B F_name
  refine F.ok scLRead (fun vs H Q E h => ?_) (fun cdv A0 outer s H vs Q E hr h => ?_)
  · obtain ⟨z, rfl, _⟩ := h; rfl
  · obtain ⟨z, rfl, hzl, qn, qs⟩ := h
    refine ⟨_, (pss_cons (ps_set (i := 1) scLRead.nd rfl (.inl rfl) (pe_lst pa_nil))
      (pss_cons (ps_set (i := 2) scLRead.nd rfl (.inl rfl) pe_bl)
      (pss_cons (ps_for (PassesOwn.never) rfl (pi_list (pe_split (pv 0) pe_str)) (pg_name (i := 3) scLRead.nd rfl (.inl rfl))
      (pss_cons (ps_ifC (PW.pt (pw_and (pt_val (pv 2)) (pw_and1 (PW.pt (pw_or (pt_cmpR op_eq (pv 3) pe_str (nomark _)) (pw_or1 (pt_cmpR op_eq (pv 3) pe_str (nomark _))))))))
       (pss_cons (ps_set (i := 2) scLRead.nd rfl (.inl rfl) pe_bl)
        (pss_one ps_continue))
       pss_nil)
       (pss_cons (ps_set (i := 4) scLRead.nd rfl (.inl rfl) (pe_m1 PySem.F.slot_str_find PySem.F.type_str_find mt_find (pv 3) pe_str))
       (pss_cons (ps_set (i := 5) scLRead.nd rfl (.inl rfl) (pv 3))
       (Evl.pss_cut (ps_if (pt_cmpR op_ge (pv 4) pe_int (nomark _))
       (pss_cons (ps_set (i := 5) scLRead.nd rfl (.inl rfl) (pe_slice sl_str (pv 3) po_none (po_some (pv 4))))
        (pss_one (ps_if (pt_not (pt_val (pe_call G_name hr (by rfl) g_name F_name.kp b_name .nil pass0 (pa_cons (pe_slice sl_str (pv 3) (po_some (pe_op op_add (pv 4) pe_int)) po_none) pa_nil))))
        (pss_one (ps_ret pe_non))
        pss_nil)))
       pss_nil)
       (pss_cons (ps_ifC (PW.pt (pw_and (pt_cmpR op_ne (pv 5) pe_str (nomark _)) (pw_and1 (pt_not (pt_val (pe_call G_name hr (by rfl) g_name F_name.kp b_name .nil pass0 (pa_cons (pv 5) pa_nil)))))))
       (pss_one (ps_ret pe_non))
       pss_nil)
       (pss_cons (ps_expr (pe_bm PySem.F.plainAttrs_list PySem.F.slot_list_append PySem.F.type_list_append mt_append (pv 1) (pa_cons (pe_tup (pa_cons (pe_cmpR op_ne (pv 5) pe_str (nomark _)) (pa_cons (pe_cmpR op_ge (pv 4) pe_int (nomark _)) pa_nil))) pa_nil)))
       (pss_one (ps_set (i := 2) scLRead.nd rfl (.inl rfl) pe_bl)))))))))
      (pss_cons (ps_ifC (PW.pt (pw_or (pt_not (pt_val (pv 2))) (pw_or1 (pt_cmpR op_gt (pe_callB call_len (by rfl) B.len PySem.boot_len (pa_cons (pv 1) pa_nil)) pe_int (nomark _)))))
      (pss_one (ps_ret pe_non))
      pss_nil)
      (pss_one (ps_ret (pv 1))))))), ?_⟩
    have hwl := wds_le z
    refine ⟨Nat.zero_le _, fun ta na => ?_⟩
    have s0 := same_new na (o := .lst [])
    have ea : (upd H ta (.lst [])) ta = some (.lst []) := upd_same
    generalize upd H ta (.lst []) = H0 at s0 ea ⊢
    refine ⟨.str z, rfl, ⟨_, rfl⟩, z, blankS, rfl, rfl, by decide +kernel, by rw [sizeLine_eq]; omega, fun L nL => ⟨L, rfl, ⟨_, SqL.of upd_same⟩, ?_⟩⟩
    have s1 := same_new nL (o := .lst ((wds z).map V.str))
    have eL : (upd H0 L (.lst ((wds z).map V.str))) L = some (.lst ((wds z).map V.str)) := upd_same
    have naL : L ≠ ta := (ne_of_none ea nL).symm
    refine for_list (K := K) (a := L) (xs := (wds z).map V.str) (fun n σ H' => ∃ (y3 y4 y5 : Option V) (us : List V) (ts : List Tst) (lk : Bool), σ = [some (.str z), some (.ref ta), some (.bl lk), y3, y4, y5] ∧ Same H H' ∧ H' L = some (.lst ((wds z).map V.str)) ∧ H' ta = some (.lst us) ∧ PairsAt H' us ts ∧ runR ((wds z).take n) = some (ts, lk) ∧ ts.length ≤ n)
      ⟨none, none, none, [], [], false, rfl, s0.trans s1, eL, s1 _ _ ea, PairsAt.nil, rfl, Nat.le_refl _⟩ (fun n σ H' _ ⟨_, _, _, _, _, _, _, _, h, _⟩ => SqL.of h) ?_ ?_
    · rintro n v σ H' hn ⟨y3, y4, y5, us, ts, lk, rfl, sm, hL, hta, hT, hrun, htl⟩
      rw [List.getElem?_map] at hn
      cases en : (wds z)[n]? with
      | none => rw [en] at hn; cases hn
      | some wd =>
      rw [en] at hn; cases hn
      have hnl : n < (wds z).length := (List.getElem?_eq_some_iff.mp en).1
      have hwd : wd.length ≤ 900 := by have := word_le (List.mem_of_getElem? en); omega
      have hstep := run_take en
      rw [hrun] at hstep
      have hul := hT.1
      obtain ⟨pl1, pl2⟩ := parts_len wd
      refine ⟨fun b H2 => H2 = H' ∧ b = (lk && lnkB wd), ?_, ?_, ?_⟩
      · refine ⟨.bl lk, rfl, lk, rfl, ?_⟩
        cases lk with
        | false => exact iteF ⟨rfl, rfl⟩
        | true =>
          refine iteT ⟨.str wd, rfl, rfl, _, rfl, ?_⟩
          rw [eqW, show Str.ofString ">" = gtS from rfl]
          cases h1 : decide (wd = gtS) with
          | true => exact iteT ⟨rfl, by unfold lnkB; rw [h1]; rfl⟩
          | false =>
            refine iteF ⟨.str wd, rfl, rfl, _, rfl, rfl, ?_⟩
            rw [eqW, show Str.ofString "+" = plS from rfl]
            unfold lnkB; rw [h1]; rfl
      · rintro H2 ⟨rfl, hb⟩
        have hst : stepR (some (ts, lk)) wd = some (ts, false) := by simp only [stepR]; rw [if_pos hb.symm]
        rw [hst] at hstep
        exact ⟨_, _, _, us, ts, false, rfl, sm, hL, hta, hT, hstep, by omega⟩
      · rintro H2 ⟨rfl, hb⟩
        have hst : stepR (some (ts, lk)) wd = (match testOf wd with | none => none | some x => some (ts ++ [x], true)) := by simp only [stepR]; rw [if_neg (by rw [← hb]; exact Bool.false_ne_true)] <;> rfl
        rw [hst] at hstep
        have hno : goodB wd = false → rdT (wds z) = none := fun hg => by
          have ht : testOf wd = none := by unfold testOf; rw [hg, if_neg Bool.false_ne_true]
          rw [ht] at hstep
          unfold rdT; rw [run_none hstep]
        have two : goodB wd = ((decide (kS wd = starS) || nameB (tl (kS wd))) && (!dB (tl wd) || nameB (tl (mS wd)))) := rfl
        refine ⟨.str wd, rfl, ⟨_, rfl⟩, wd, dotS, rfl, rfl, ?_⟩
        rw [find_word]
        refine ⟨.str wd, rfl, ?_⟩
        generalize hfv : (if dB (tl wd) = true then (((kL (tl wd)).length : Nat) : Int) else -1) = fv
        refine ⟨fun σ H3 => σ = [some (.str z), some (.ref ta), some (.bl lk), some (.str wd), some (.int fv), some (.str (kS wd))] ∧ H3 = H2 ∧ (!dB (tl wd) || nameB (tl (mS wd))) = true ∧ decide (fv ≥ 0) = dB (tl wd), ?_, ?_⟩
        · refine ⟨.int fv, rfl, fv, 0, rfl, rfl, _, rfl, ?_⟩
          cases hd : dB (tl wd) with
          | false =>
            rw [hd, if_neg Bool.false_ne_true] at hfv
            subst hfv
            have ek : kS wd = wd := (kS_nodot hd).1
            refine iteF ⟨by rw [ek]; rfl, rfl, rfl, rfl⟩
          | true =>
            rw [hd, if_pos rfl] at hfv
            subst hfv
            have hc := cut_dot hd
            have hcl := congrArg List.length hc
            rw [List.length_append, List.length_cons, tl_len] at hcl
            rw [decide_eq_true (show (((kL (tl wd)).length : Nat) : Int) ≥ 0 by omega)]
            have ek : cutS wd none (some (((kL (tl wd)).length : Nat) : Int)) = kS wd := str_eq (by
              rw [cut_to, tl_kS]; exact (tk_len hc).1)
            have em : cutS wd (some ((((kL (tl wd)).length : Nat) : Int) + 1)) none = mS wd := str_eq (by
              rw [show (((kL (tl wd)).length : Nat) : Int) + 1 = (((kL (tl wd)).length + 1 : Nat) : Int) by omega, cut_from, tl_mS]; exact (tk_len hc).2.1)
            refine iteT ⟨.str wd, rfl, .int (((kL (tl wd)).length : Nat) : Int), rfl, (((kL (tl wd)).length : Nat) : Int), rfl, wd, rfl, by rw [sizeLine_eq]; omega, ?_⟩
            rw [ek]
            refine ⟨.str wd, rfl, .int (((kL (tl wd)).length : Nat) : Int), rfl, _, 1, rfl, rfl, _, rfl, wd, rfl, by rw [sizeLine_eq]; omega, ?_⟩
            rw [em]
            refine ⟨mS wd, rfl, by omega, _, rfl, ?_⟩
            cases hm : nameB (tl (mS wd)) with
            | false =>
              refine iteT (qn (hno ?_) _ sm)
              rw [two, hd, hm]; simp
            | true => exact iteF ⟨rfl, rfl, rfl, rfl⟩
        · rintro σ H3 ⟨rfl, rfl, hm, hfd⟩
          refine ⟨fun b H4 => H4 = H3 ∧ b = !(decide (kS wd = starS) || nameB (tl (kS wd))), ?_, ?_, ?_⟩
          · refine ⟨.str (kS wd), rfl, rfl, _, rfl, ?_⟩
            rw [eqW, show Str.ofString "*" = starS from rfl]
            cases hs : decide (kS wd = starS) with
            | true => exact iteF ⟨rfl, rfl⟩
            | false =>
              refine iteT ⟨.str (kS wd), rfl, kS wd, rfl, by omega, _, rfl, rfl, ?_⟩
              rw [Bool.false_or]
          · rintro H4 ⟨rfl, hb⟩
            refine qn (hno ?_) _ sm
            rw [two]
            generalize (decide (kS wd = starS) || nameB (tl (kS wd))) = X at hb
            cases X with
            | true => cases hb
            | false => rfl
          · rintro H4 ⟨rfl, hb⟩
            have hk : (decide (kS wd = starS) || nameB (tl (kS wd))) = true := by
              generalize (decide (kS wd = starS) || nameB (tl (kS wd))) = X at hb
              cases X with
              | true => rfl
              | false => cases hb
            have hg : goodB wd = true := by rw [two, hk, hm]; rfl
            have ht : testOf wd = some (kS wd, mS wd) := by unfold testOf; rw [if_pos hg]
            rw [ht] at hstep
            refine ⟨.ref ta, rfl, .inl ⟨rfl, _, SqL.of hta⟩, .str (kS wd), rfl, rfl, .int fv, rfl, fv, 0, rfl, rfl, by show 2 ≤ sizeLine; decide, fun t nt => ?_⟩
            have e1 : (!decide (V.str (kS wd) = V.str (Str.ofString "*"))) = names (kS wd, mS wd) := by rw [eqW]; rfl
            have e2 : decide (fv ≥ 0) = asks (kS wd, mS wd) := by rw [hfd, good_mark hg]; rfl
            have st := same_new nt (o := .tup [.bl (!decide (V.str (kS wd) = V.str (Str.ofString "*"))), .bl (decide (fv ≥ 0))])
            have htt : (upd H4 t (.tup [.bl (!decide (V.str (kS wd) = V.str (Str.ofString "*"))), .bl (decide (fv ≥ 0))])) t = some (.tup [.bl (names (kS wd, mS wd)), .bl (asks (kS wd, mS wd))]) := by rw [upd_same, e1, e2]
            refine ⟨ta, us, .ref t, rfl, rfl, st _ _ hta, small1000 (by omega), ?_⟩
            generalize upd H4 t (.tup [.bl (!decide (V.str (kS wd) = V.str (Str.ofString "*"))), .bl (decide (fv ≥ 0))]) = H5 at st htt ⊢
            have tt : SameT H5 (upd H5 ta (.lst (us ++ [.ref t]))) := SameT.lst (st _ _ hta)
            exact ⟨_, _, _, us ++ [.ref t], ts ++ [(kS wd, mS wd)], true, rfl, same_at (sm.trans st) na, by rw [upd_ne naL]; exact st _ _ hL, upd_same, ((hT.tups (Same.tups st)).tups tt).snoc (tt _ _ htt), hstep, by rw [List.length_append]; show _ + 1 ≤ _; omega⟩
    · rintro σ H' ⟨y3, y4, y5, us, ts, lk, rfl, sm, hL, hta, hT, hrun, htl⟩
      rw [List.length_map, List.take_length] at hrun
      have hul := hT.1
      rw [List.length_map] at htl
      refine ⟨fun b H2 => H2 = H' ∧ b = (!lk || decide (4 < ts.length)), ?_, ?_, ?_⟩
      · refine ⟨.bl lk, rfl, lk, rfl, ?_⟩
        cases lk with
        | false => exact iteT ⟨rfl, rfl⟩
        | true =>
          refine iteF ⟨.ref ta, rfl, .ref ta, us.length, rfl, .inl ⟨_, SqL.of hta, rfl⟩, _, 4, rfl, rfl, _, rfl, rfl, ?_⟩
          rw [hul]
          show decide ((ts.length : Int) > 4) = decide (4 < ts.length)
          exact decide_eq_decide.mpr (by omega)
      · rintro H2 ⟨rfl, hb⟩
        refine qn ?_ _ sm
        unfold rdT; rw [hrun]
        cases lk with
        | false => rfl
        | true =>
          have h4 : ¬ ts.length ≤ 4 := by have := of_decide_eq_true (hb.symm); omega
          simp only; rw [if_neg h4]
      · rintro H2 ⟨rfl, hb⟩
        have hb' := hb.symm
        rw [Bool.or_eq_false_iff] at hb'
        have hl1 : lk = true := by simpa using hb'.1
        have h4 : ts.length ≤ 4 := by have := of_decide_eq_false hb'.2; omega
        have hrd : rdT (wds z) = some ts := by
          unfold rdT; rw [hrun, hl1]; simp only; rw [if_pos h4]
        exact ⟨.ref ta, rfl, qs ts hrd _ ta us sm hta hT⟩
end
end K10

set_option maxRecDepth 100000
set_option maxHeartbeats 4000000
namespace K10
open PySem PySem.Spec PyProof.Rows L2
theorem pick {z : Str} {r : Int} (h0 : 0 ≤ r) (h1 : r < (z.length : Int)) : ∃ c, atI z.cps.toList r = some c ∧ c ∈ tl z := by
  have h2 : r.toNat < z.cps.toList.length := by rw [Array.length_toList]; have : z.length = z.cps.size := rfl; omega
  have h3 : ((r.toNat : Nat) : Int) = r := by omega
  have h4 := atI_nat (List.getElem?_eq_getElem h2)
  rw [h3] at h4
  exact ⟨_, h4, List.getElem_mem h2⟩
theorem cutV_nat (xs : List V) {a b : Nat} (hab : a ≤ b) (hb : b ≤ xs.length) : cutV xs (some (a : Int)) (some (b : Int)) = (xs.drop a).take (b - a) := by
  unfold cutV
  rw [HT.sIx_nat, HT.sIx_nat, Nat.min_eq_left hb, Nat.min_eq_left (Nat.le_trans hab hb)]
theorem row_at {ls rs : List Int} (h : rs.length = ls.length ∧ ∀ (i : Nat) (l : Int), ls[i]? = some l → ∃ r, rs[i]? = some r ∧ 0 ≤ r ∧ r < l) {i : Nat} {l : Int} (hl : ls[i]? = some l) : ∃ r, rs[i]? = some r ∧ 0 ≤ r ∧ r < l := h.2 i l hl
theorem i_at {rs : List Int} {i : Nat} {r : Int} (h : rs[i]? = some r) : (rs.map V.int)[i]? = some (.int r) := by rw [List.getElem?_map, h]; rfl
theorem name_mk {z : Str} (h1 : 1 ≤ (tl z).length) (h2 : (tl z).length ≤ 8) (h3 : ∀ c ∈ tl z, isL c = true) : Name z := ⟨h1, h2, h3⟩
def words8 : List Str := ["doc", "par", "em", "head", "note", "a", "b", "x"].map Str.ofString
theorem words8_ok : ∀ z ∈ words8, (1 ≤ (tl z).length ∧ (tl z).length ≤ 8) ∧ (tl z).all isL = true := by decide +kernel
section
variable {P : Program} {w : World} {K : PySem.W.Frag} {mg : Str → Option Value} {base : Heap} {t1 t2 t3 t4 t5 t6 : Tok}
/-! ### _law_cell -/
def spCell (K : PySem.W.Frag) : Sp := fun vs H Q _ => ∃ (a : Addr) (ns : List Int) (k : Int), vs = [.ref a, .int k] ∧ SqL K H a (ns.map V.int) ∧ ns.length ≤ 63 ∧ 0 ≤ k ∧ ∀ c, Q (.int c) H
theorem scCell : FnScope ["_law_script", "_law_k"] ["_law_script", "_law_k"] (defScope sCell) := ⟨rfl, rfl, rfl, by decide +kernel, rfl, by decide +kernel, by decide +kernel⟩
theorem ok_cell {f : Addr} {fd : FuncData} (B : Blt mg) (F : Fun K "_law_cell" "_law_cell" sCell f fd) : FnOk P w K mg base CX0 1 f fd ["_law_script", "_law_k"] (spCell K) := by
  refine F.ok scCell (fun vs H Q E h => ?_) (fun cdv A outer s H vs Q E hr h => ?_)
  · obtain ⟨a, ns, k, rfl, _⟩ := h; rfl
  · obtain ⟨a, ns, k, rfl, hS, hlen, h0, q⟩ := h
    refine ⟨_, (pss_cons (ps_if (pt_cmpR op_lt (pv 1) (pe_callB call_len (by rfl) B.len PySem.boot_len (pa_cons (pv 0) pa_nil)) (nomark _))
      (pss_one (ps_ret (pe_callTy call_int1 (by rfl) B.int (by decide +kernel) (pa_cons (pe_ix ix_list (pv 0) (pv 1) (fun _ _ => rfl)) pa_nil))))
      pss_nil)
      (pss_one (ps_ret (pe_op op_add (pe_op op_mul pe_int (pv 1)) pe_int)))), ?_⟩
    refine ⟨.int k, rfl, .ref a, rfl, .ref a, (ns.map V.int).length, rfl, .inl ⟨_, hS, rfl⟩, k, _, rfl, rfl, _, rfl, ite2 (fun hk => ?_) (fun _ => ?_)⟩
    · have hk' : k < ((ns.map V.int).length : Int) := of_decide_eq_true hk
      rw [List.length_map] at hk'
      have hlt : k.toNat < ns.length := by omega
      exact ⟨.ref a, rfl, .int k, rfl, a, _, k, .int (ns[k.toNat]'hlt), rfl, rfl, hS, at_of (j := k.toNat) (by omega) (by rw [List.getElem?_map]; simp [hlt]), .inl ⟨_, rfl, q _⟩⟩
    · exact ⟨.int k, rfl, 7, k, rfl, rfl, .inl ⟨by decide, by decide⟩, _, 1, rfl, rfl, q _⟩
/-! ### _law_row -/
theorem map_snoc' (rs : List Int) (r : Int) : rs.map V.int ++ [V.int r] = (rs ++ [r]).map V.int := by rw [List.map_append]; rfl
def RowOf (ls rs : List Int) : Prop := rs.length = ls.length ∧ ∀ (i : Nat) (l : Int), ls[i]? = some l → ∃ r, rs[i]? = some r ∧ 0 ≤ r ∧ r < l
def spRow (K : PySem.W.Frag) : Sp := fun vs H Q _ => ∃ (c : Int) (a : Addr) (ls : List Int), vs = [.int c, .ref a] ∧ SqL K H a (ls.map V.int) ∧ ls.length ≤ 1000 ∧ (∀ l ∈ ls, 0 < l ∧ l < 10000000000000) ∧
  ∀ H' p rs, Same H H' → H p = none → H' p = some (.lst (rs.map V.int)) → RowOf ls rs → Q (.ref p) H'
theorem scRow : FnScope ["_law_cell_here", "_law_limits", "_law_row_here", "_law_rest", "_law_limit", "_law_k", "_law_mixed"] ["_law_cell_here", "_law_limits"] (defScope sRow) := ⟨rfl, rfl, rfl, by decide +kernel, rfl, by decide +kernel, by decide +kernel⟩
theorem ok_row {f : Addr} {fd : FuncData} (B : Blt mg) (F : Fun K "_law_row" "_law_row" sRow f fd) : FnOk P w K mg base CX0 1 f fd ["_law_cell_here", "_law_limits"] (spRow K) := by
  refine F.ok scRow (fun vs H Q E h => ?_) (fun cdv A outer s H vs Q E hr h => ?_)
  · obtain ⟨c, a, ls, rfl, _⟩ := h; rfl
  · obtain ⟨c, a, ls, rfl, hS, hlen, hpos, q⟩ := h
    refine ⟨_, (pss_cons (ps_set (i := 2) scRow.nd rfl (.inl rfl) (pe_lst pa_nil))
      (pss_cons (ps_if (pt_cmpR op_ge (pv 0) pe_int (nomark _))
      (pss_cons (ps_set (i := 3) scRow.nd rfl (.inl rfl) (pe_op op_sub (pv 0) pe_int))
       (pss_cons (ps_for (PassesOwn.never) rfl (pi_list (pv 1)) (pg_name (i := 4) scRow.nd rfl (.inl rfl))
       (pss_cons (ps_expr (pe_bm PySem.F.plainAttrs_list PySem.F.slot_list_append PySem.F.type_list_append mt_append (pv 2) (pa_cons (pe_op op_modN (pe_callTy call_int1 (by rfl) B.int (by decide +kernel) (pa_cons (pv 3) pa_nil)) (pv 4)) pa_nil)))
        (pss_one (ps_set (i := 3) scRow.nd rfl (.inl rfl) (pe_op op_fdivW (pv 3) (pv 4))))))
       (pss_one (ps_ret (pv 2)))))
      pss_nil)
      (pss_cons (ps_for (PassesOwn.never) rfl (pi_range1 (by rfl) B.range (pa_cons (pe_callB call_len (by rfl) B.len PySem.boot_len (pa_cons (pv 1) pa_nil)) pa_nil)) (pg_name (i := 5) scRow.nd rfl (.inl rfl))
      (pss_cons (ps_set (i := 6) scRow.nd rfl (.inl rfl) (pe_op op_modN (pe_callTy call_int1 (by rfl) B.int (by decide +kernel) (pa_cons (pe_op op_add (pe_op op_add (pe_op op_mul (pv 0) pe_int) (pe_op op_mul (pv 5) pe_int)) pe_int) pa_nil)) pe_int))
       (pss_cons (ps_set (i := 6) scRow.nd rfl (.inl rfl) (pe_op op_modN (pe_callTy call_int1 (by rfl) B.int (by decide +kernel) (pa_cons (pe_op op_add (pe_op op_add (pe_op op_mul (pv 6) (pe_op op_add pe_int (pe_op op_mul pe_int (pv 5)))) (pe_op op_mul (pe_op op_mul (pv 5) (pv 5)) pe_int)) pe_int) pa_nil)) pe_int))
       (pss_one (ps_expr (pe_bm PySem.F.plainAttrs_list PySem.F.slot_list_append PySem.F.type_list_append mt_append (pv 2) (pa_cons (pe_op op_modN (pe_callTy call_int1 (by rfl) B.int (by decide +kernel) (pa_cons (pe_op op_fdivN (pv 6) pe_int) pa_nil)) (pe_ix ix_list (pv 1) (pv 5) (fun _ _ => rfl))) pa_nil)))))))
      (pss_one (ps_ret (pv 2)))))), ?_⟩
    refine ⟨Nat.zero_le _, fun o no => ?_⟩
    have s1 : Same H (upd H o (.lst [])) := same_new no
    have eo : (upd H o (.lst [])) o = some (.lst (([] : List Int).map V.int)) := upd_same
    generalize upd H o (.lst []) = H1 at s1 eo ⊢
    have more : ∀ (n : Nat) (rs : List Int) (l : Int), ls[n]? = some l → rs.length = n → (∀ (i : Nat) (l : Int), i < n → ls[i]? = some l → ∃ r, rs[i]? = some r ∧ 0 ≤ r ∧ r < l) → ∀ x : Int, ∀ (i : Nat) (m : Int), i < n + 1 → ls[i]? = some m → ∃ r, (rs ++ [x.fmod l])[i]? = some r ∧ 0 ≤ r ∧ r < m := by
      intro n rs l hl hrs hrow x i m hi hm
      have hp := hpos l (List.mem_of_getElem? hl)
      by_cases hin : i < n
      · obtain ⟨r, h1, h2, h3⟩ := hrow i m hin hm
        exact ⟨r, by rw [List.getElem?_append_left (by omega)]; exact h1, h2, h3⟩
      · obtain rfl : i = n := by omega
        rw [hl] at hm; cases hm
        exact ⟨_, by rw [List.getElem?_append_right (by omega), hrs, Nat.sub_self]; rfl, Int.fmod_nonneg_of_pos _ hp.1, Int.fmod_lt_of_pos _ hp.1⟩
    refine ⟨.int c, rfl, c, 1000000000000000000, rfl, rfl, _, rfl, ite2 (fun _ => ?_) (fun _ => ?_)⟩
    · refine ⟨.int c, rfl, c, 1000000000000000000, rfl, rfl, .ref a, rfl, a, rfl, ⟨_, s1.seq hS⟩, for_list (K := K) (a := a) (xs := ls.map V.int) (fun n σ H' => ∃ (rest : Int) (y4 y5 y6 : Option V) (rs : List Int), σ = [some (.int c), some (.ref a), some (.ref o), some (.int rest), y4, y5, y6] ∧ Same H H' ∧ H' o = some (.lst (rs.map V.int)) ∧ rs.length = n ∧
        ∀ (i : Nat) (l : Int), i < n → ls[i]? = some l → ∃ r, rs[i]? = some r ∧ 0 ≤ r ∧ r < l) ⟨_, none, none, none, [], rfl, s1, eo, rfl, fun i l h => absurd h (Nat.not_lt_zero i)⟩ (fun n σ H' _ ⟨_, _, _, _, _, _, sm, _⟩ => sm.seq hS) ?_ ?_⟩
      · rintro n x σ H' hn ⟨rest, y4, y5, y6, rs, rfl, sm, ho, hl, hrow⟩
        rw [List.getElem?_map] at hn
        cases en : ls[n]? with
        | none => rw [en] at hn; cases hn
        | some l =>
        rw [en] at hn; cases hn
        have hp := hpos l (List.mem_of_getElem? en)
        have hlt := (List.getElem?_eq_some_iff.mp en).1
        have hsz : (rs.map V.int).length < sizeLine := by rw [List.length_map]; exact small1000 (by omega)
        refine ⟨.ref o, rfl, .inl ⟨rfl, _, SqL.of ho⟩, .int rest, rfl, .inl ⟨rest, rfl, .int l, rfl, rest, l, rfl, rfl, by omega, o, _, _, rfl, rfl, ho, hsz, ?_⟩⟩
        refine ⟨.int rest, rfl, .int l, rfl, rest, l, rfl, rfl, wide_div (b := 44) (by omega) (by omega) (by decide) (by decide), ?_⟩
        exact ⟨_, _, _, _, _, rfl, same_at sm no, by rw [upd_same, map_snoc'], by rw [List.length_append, hl]; rfl, more n rs l en hl hrow rest⟩
      · rintro σ H' ⟨rest, y4, y5, y6, rs, rfl, sm, ho, hl, hrow⟩
        rw [List.length_map] at hl hrow
        exact ⟨.ref o, rfl, q H' o rs sm no ho ⟨hl, fun i l hli => hrow i l (List.getElem?_eq_some_iff.mp hli).1 hli⟩⟩
    · refine ⟨.ref a, rfl, .ref a, (ls.map V.int).length, rfl, .inl ⟨_, s1.seq hS, rfl⟩, ((ls.map V.int).length : Int), rfl, by omega, by rw [List.length_map]; omega, ?_⟩
      rw [Int.toNat_natCast, List.length_map]
      refine for_range (lo := 0) (n := ls.length) (fun n σ H' => ∃ (y3 y4 y5 y6 : Option V) (rs : List Int), σ = [some (.int c), some (.ref a), some (.ref o), y3, y4, y5, y6] ∧ Same H H' ∧ H' o = some (.lst (rs.map V.int)) ∧ rs.length = n ∧
        ∀ (i : Nat) (l : Int), i < n → ls[i]? = some l → ∃ r, rs[i]? = some r ∧ 0 ≤ r ∧ r < l) ⟨none, none, none, none, [], rfl, s1, eo, rfl, fun i l h => absurd h (Nat.not_lt_zero i)⟩ ?_ ?_
      · rintro n σ H' hn ⟨y3, y4, y5, y6, rs, rfl, sm, ho, hl, hrow⟩
        have e0 : (0 : Int) + (n : Int) = (n : Int) := by omega
        rw [e0]
        have hSn : SqL K H' a (ls.map V.int) := sm.seq hS
        have en : ls[n]? = some (ls[n]'hn) := by simp [hn]
        have hat : (ls.map V.int)[n]? = some (.int (ls[n]'hn)) := by rw [List.getElem?_map, en]; rfl
        have hp := hpos (ls[n]'hn) (List.getElem_mem hn)
        have hsz : (rs.map V.int).length < sizeLine := by rw [List.length_map]; exact small1000 (by omega)
        refine ⟨.int c, rfl, c, 48271, rfl, rfl, .inr ⟨by decide, by decide⟩, .int (n : Int), rfl, (n : Int), 69621, rfl, rfl, .inr ⟨by decide, by decide⟩, _, _, rfl, rfl, _, 11, rfl, rfl, .inl ⟨_, rfl, _, 2147483647, rfl, rfl, (show (2147483647 : Int) ≠ 0 by decide), ?_⟩⟩
        have hm0 : 0 ≤ (c * 48271 + (n : Int) * 69621 + 11).fmod 2147483647 := Int.fmod_nonneg_of_pos _ (by decide)
        have hm1 : (c * 48271 + (n : Int) * 69621 + 11).fmod 2147483647 < 2147483647 := Int.fmod_lt_of_pos _ (by decide)
        refine ⟨_, rfl, .int (n : Int), rfl, 2, (n : Int), rfl, rfl, .inl ⟨by decide, by decide⟩, 16807, _, rfl, rfl, (c * 48271 + (n : Int) * 69621 + 11).fmod 2147483647, _, rfl, rfl, .inl ⟨Int.lt_of_lt_of_le (by decide) hm0, Int.lt_trans hm1 (by decide)⟩, .int (n : Int), rfl, .int (n : Int), rfl, (n : Int), (n : Int), rfl, rfl, .inl ⟨by omega, by omega⟩, _, 40692, rfl, rfl, .inr ⟨by decide, by decide⟩, _, _, rfl, rfl, _, 7, rfl, rfl, .inl ⟨_, rfl, _, 2147483399, rfl, rfl, (show (2147483399 : Int) ≠ 0 by decide), ?_⟩⟩
        refine ⟨.ref o, rfl, .inl ⟨rfl, _, SqL.of ho⟩, _, rfl, _, 31, rfl, rfl, ⟨by decide, by decide⟩, .inl ⟨_, rfl, .ref a, rfl, .int (n : Int), rfl, a, _, (n : Int), .int (ls[n]'hn), rfl, rfl, hSn, atI_nat hat, _, ls[n]'hn, rfl, rfl, by omega, o, _, _, rfl, rfl, ho, hsz, ?_⟩⟩
        exact ⟨_, _, _, _, _, rfl, same_at sm no, by rw [upd_same, map_snoc'], by rw [List.length_append, hl]; rfl, more n rs _ en hl hrow _⟩
      · rintro σ H' ⟨y3, y4, y5, y6, rs, rfl, sm, ho, hl, hrow⟩
        exact ⟨.ref o, rfl, q H' o rs sm no ho ⟨hl, fun i l hli => hrow i l (List.getElem?_eq_some_iff.mp hli).1 hli⟩⟩


/-! ### _law_names -/
def spNames : Sp := fun vs H Q _ => ∃ (c : Int), vs = [.int c, .int 6] ∧ ∀ (H' : Hp) (p : Addr) (zs : List Str), Same H H' → H p = none → H' p = some (.lst (zs.map V.str)) → zs.length = 6 → (∀ z ∈ zs, Name z) → Q (.ref p) H'
abbrev nNa : List Str := ["_law_cell_here", "_law_many", "_law_row_here", "_law_letters", "_law_word", "_law_at", "_law_behind", "_law_k"]
theorem scNames : FnScope nNa ["_law_cell_here", "_law_many"] (defScope sNames) := ⟨rfl, rfl, rfl, by decide +kernel, rfl, by decide +kernel, by decide +kernel⟩
theorem ok_names {f f_row : Addr} {fd fd_row : FuncData} (B : Blt mg) (F : Fun K "_law_names" "_law_names" sNames f fd)
    (F_row : Fun K "_law_row" "_law_row" sRow f_row fd_row) (b_row : Binds K fd_row ["_law_cell_here", "_law_limits"] []) (g_row : mg "_law_row" = some (.ref f_row)) :
    FnOk P w K mg base CX0 2 f fd ["_law_cell_here", "_law_many"] spNames := by
  have G_row : FnOk P w K mg base CX0 1 f_row fd_row ["_law_cell_here", "_law_limits"] (spRow K) := ok_row B F_row
  refine F.ok scNames (fun vs H Q E h => ?_) (fun cdv A0 outer s H vs Q E hr h => ?_)
  · obtain ⟨c, rfl, _⟩ := h; rfl
  · obtain ⟨c, rfl, q⟩ := h
    refine ⟨_, (pss_cons (ps_set (i := 2) scNames.nd rfl (.inr rfl) (pe_call G_row hr (by rfl) g_row F_row.kp b_row .nil pass0 (pa_cons (pv 0) (pa_cons (pe_lst (pa_cons pe_int (pa_cons pe_int (pa_cons pe_int (pa_cons pe_int (pa_cons pe_int (pa_cons pe_int (pa_cons pe_int (pa_cons pe_int (pa_cons pe_int (pa_cons pe_int (pa_cons pe_int (pa_cons pe_int pa_nil))))))))))))) pa_nil))))
      (pss_cons (ps_set (i := 3) scNames.nd rfl (.inr rfl) pe_str)
      (pss_cons (ps_if (pt_cmpR op_eq (pe_ix ix_list (pv 2) pe_int (fun _ _ => rfl)) pe_int (nomark _))
      (pss_one (ps_ret (pe_slice sl_list (pe_lst (pa_cons pe_str (pa_cons pe_str (pa_cons pe_str (pa_cons pe_str (pa_cons pe_str (pa_cons pe_str (pa_cons pe_str (pa_cons pe_str pa_nil))))))))) po_none (po_some (pv 1)))))
      pss_nil)
      (pss_cons (ps_set (i := 4) scNames.nd rfl (.inr rfl) (pe_join pe_str (pe_lc (own := [("_law_k", 7)]) (g := gName 7) (tt := tYes) rfl scNames.nd (pi_list (pe_slice sl_list (pv 2) (po_some pe_int) po_none)) (blkOk_by (N := nNa) (sc := defScope sNames) (by decide +kernel)) (fun _ _ _ _ _ => (pg_name (i := 7) scNames.nd rfl (.inl rfl))) (fun _ _ _ _ _ => pts_nil) (fun _ _ _ _ _ => (pe_ix ix_str (pv 3) (pv 7) (fun _ _ => rfl))))))
      (pss_cons (ps_if (pt_cmpR op_eq (pe_ix ix_list (pv 2) pe_int (fun _ _ => rfl)) pe_int (nomark _))
      (pss_one (ps_ret (pe_lc (own := [("_law_k", 7)]) (g := gName 7) (tt := tYes) rfl scNames.nd (pi_range1 (by rfl) B.range (pa_cons (pv 1) pa_nil)) (blkOk_by (N := nNa) (sc := defScope sNames) (by decide +kernel)) (fun _ _ _ _ _ => (pg_name (i := 7) scNames.nd rfl (.inl rfl))) (fun _ _ _ _ _ => pts_nil) (fun _ _ _ _ _ => (pe_slice sl_str (pv 4) po_none (po_some (pe_op op_add (pv 7) pe_int)))))))
      pss_nil)
      (pss_cons (ps_set (i := 5) scNames.nd rfl (.inr rfl) (pe_op op_modN (pe_callTy call_int1 (by rfl) B.int (by decide +kernel) (pa_cons (pe_ix ix_list (pv 2) pe_int (fun _ _ => rfl)) pa_nil)) (pe_op op_add (pe_ix ix_list (pv 2) pe_int (fun _ _ => rfl)) pe_int)))
      (pss_cons (ps_set (i := 6) scNames.nd rfl (.inr rfl) (pe_slice sl_str (pv 4) (po_some (pe_op op_add (pv 5) pe_int)) (po_some (pe_op op_add (pe_ix ix_list (pv 2) pe_int (fun _ _ => rfl)) pe_int))))
      (pss_one (ps_ret (pe_lc (own := [("_law_k", 7)]) (g := gName 7) (tt := tYes) rfl scNames.nd (pi_range1 (by rfl) B.range (pa_cons (pv 1) pa_nil)) (blkOk_by (N := nNa) (sc := defScope sNames) (by decide +kernel)) (fun _ _ _ _ _ => (pg_name (i := 7) scNames.nd rfl (.inl rfl))) (fun _ _ _ _ _ => pts_nil) (fun _ _ _ _ _ => (pe_op op_add_str (pe_op op_add_str (pe_slice sl_str (pv 4) po_none (po_some (pv 5))) (pe_ix ix_str (pv 3) (pe_op op_modN (pe_callTy call_int1 (by rfl) B.int (by decide +kernel) (pa_cons (pe_op op_add (pe_ix (show IxR _ (rIxL K) from ix_list) (pv 2) pe_int (fun _ _ => rfl)) (pv 7)) pa_nil)) pe_int) (fun _ _ => rfl))) (pv 6))))))))))))), ?_⟩
    refine ⟨.int c, rfl, by show 12 ≤ sizeLine; decide, fun l0 n0 => ⟨c, l0, [3, 8, 8, 26, 26, 26, 26, 26, 26, 26, 26, 26], rfl, SqL.of upd_same, by decide, by decide, fun H1 R rs s1 nR hR hrow => ?_⟩⟩
    have s01 := (same_new n0 (o := .lst [.int 3, .int 8, .int 8, .int 26, .int 26, .int 26, .int 26, .int 26, .int 26, .int 26, .int 26, .int 26])).trans s1
    obtain ⟨g0, a0, b0, d0⟩ := row_at hrow (i := 0) (l := 3) rfl
    obtain ⟨g1, a1, b1, d1⟩ := row_at hrow (i := 1) (l := 8) rfl
    obtain ⟨g2, a2, b2, d2⟩ := row_at hrow (i := 2) (l := 8) rfl
    obtain ⟨g3, a3, b3, d3⟩ := row_at hrow (i := 3) (l := 26) rfl
    refine ⟨.ref R, rfl, R, _, 0, .int g0, rfl, rfl, SqL.of hR, atI_nat (j := 0) (i_at a0), rfl, _, rfl, ite2 (fun _ => ?_) (fun _ => ?_)⟩
    · refine ⟨by show 8 ≤ sizeLine; decide, fun l1 n1 => ⟨.int 6, rfl, 6, rfl, l1, words8.map V.str, rfl, SqL.of upd_same, fun l2 n2 => ?_⟩⟩
      have e : cutV (words8.map V.str) none (some 6) = (words8.take 6).map V.str := by
        unfold cutV
        rw [HT.sIx_none, show (6 : Int) = ((6 : Nat) : Int) from rfl, HT.sIx_nat]; rfl
      rw [e]
      have n3 : H1 l2 = none := by
        have hne : l2 ≠ l1 := fun h => by subst h; rw [upd_same] at n2; cases n2
        rw [upd_ne hne] at n2; exact n2
      refine q _ l2 (words8.take 6) (s01.trans ((same_new n1).trans (same_new n2))) (s01.free n3) upd_same (by decide +kernel) fun z hz => ?_
      obtain ⟨h1, h2⟩ := words8_ok z (List.mem_of_mem_take hz)
      exact name_mk h1.1 h1.2 (by rw [List.all_eq_true] at h2; exact h2)
    · -- the word
      have hcut : cutV (rs.map V.int) (some 4) none = (rs.drop 4).map V.int := by
        unfold cutV
        have hl := hrow.1
        have hl' : rs.length = 12 := hl
        rw [show (4 : Int) = ((4 : Nat) : Int) from rfl, HT.sIx_nat, HT.sIx_none, List.length_map, hl']
        show ((rs.map V.int).drop 4).take 8 = _
        rw [← List.map_drop, List.take_of_length_le (by rw [List.length_map, List.length_drop, hl']; decide)]
      have hgl : (rs.drop 4).length = 8 := by rw [List.length_drop, show rs.length = 12 from hrow.1]
      have hgs : ∀ (i : Nat) g, (rs.drop 4)[i]? = some g → 0 ≤ g ∧ g < 26 := fun i g hg => by
        have hi : i < 8 := by rw [← hgl]; exact (List.getElem?_eq_some_iff.mp hg).1
        rw [List.getElem?_drop] at hg
        have hl26 : ([3, 8, 8, 26, 26, 26, 26, 26, 26, 26, 26, 26] : List Int)[4 + i]? = some 26 := by
          match i, hi with
          | 0, _ => rfl
          | 1, _ => rfl
          | 2, _ => rfl
          | 3, _ => rfl
          | 4, _ => rfl
          | 5, _ => rfl
          | 6, _ => rfl
          | 7, _ => rfl
          | i + 8, h => omega
        obtain ⟨r, e1, e2, e3⟩ := row_at hrow hl26
        rw [hg] at e1; cases e1; exact ⟨e2, e3⟩
      refine ⟨⟨_, rfl⟩, .ref R, rfl, 4, rfl, R, rs.map V.int, rfl, SqL.of hR, fun l1 n1 => ⟨l1, rfl, ⟨_, SqL.of upd_same⟩, fun D hD => ?_⟩⟩
      rw [hcut] at hD ⊢
      have sL := same_new n1 (o := .lst ((rs.drop 4).map V.int))
      have eL : (upd H1 l1 (.lst ((rs.drop 4).map V.int))) l1 = some (.lst ((rs.drop 4).map V.int)) := upd_same
      generalize upd H1 l1 (.lst ((rs.drop 4).map V.int)) = H2 at sL eL hD ⊢
      have s02 := s01.trans sL
      have hR2 := sL _ _ hR
      refine lc_list (K := K) (a := l1) (xs := (rs.drop 4).map V.int) (fun i H' => ∃ cs : List Nat, H' D = some (.lst ((cs.map fun c => (⟨#[c]⟩ : Str)).map V.str)) ∧ cs.length = i ∧ (∀ c ∈ cs, isL c = true) ∧ Same H2 H')
        ⟨[], upd_same, rfl, fun c h => absurd h List.not_mem_nil, same_new hD⟩ (fun i H' _ ⟨_, _, _, _, s⟩ => SqL.of (s _ _ eL)) ?_ ?_
      · rintro i v H' hi ⟨cs, hD', hcl, hcL, sm⟩
        have hi8 : i < 8 := by have := (List.getElem?_eq_some_iff.mp hi).1; rw [List.length_map, hgl] at this; exact this
        rw [List.getElem?_map] at hi
        cases en : (rs.drop 4)[i]? with
        | none => rw [en] at hi; cases hi
        | some g =>
        rw [en] at hi; cases hi
        obtain ⟨e1, e2⟩ := hgs i g en
        obtain ⟨ch, c1, c2⟩ := pick (z := letters) e1 (by rw [letters_len]; omega)
        refine ⟨rfl, .str letters, rfl, .int g, rfl, letters, g, ch, rfl, rfl, by rw [letters_len]; decide, c1, _, hD', small1000 (by rw [List.length_map, List.length_map]; omega), cs ++ [ch], by rw [upd_same, map_snocS]; simp only [List.map_append, List.map_cons, List.map_nil], by rw [List.length_append, hcl]; rfl, fun x hx => ?_, same_at sm hD⟩
        rcases List.mem_append.mp hx with h | h
        · exact hcL x h
        · rw [List.mem_singleton.mp h]; exact letters_L ch c2
      · rintro H3 ⟨cs, hD', hcl, hcL, sm3⟩
        rw [List.length_map, hgl] at hcl
        have hsum : ((cs.map fun c => (⟨#[c]⟩ : Str)).map (·.length)).sum + (cs.map fun c => (⟨#[c]⟩ : Str)).length * (Str.ofString "").length ≤ 16777216 := by
          rw [sum_ones, List.length_map, hcl, show (Str.ofString "").length = 0 from by decide +kernel]; decide
        refine ⟨Str.ofString "", D, cs.map fun c => (⟨#[c]⟩ : Str), rfl, rfl, .inl (SqL.of hD'), hsum, ?_⟩
        have hz := join_ones cs
        generalize Txt.join (Str.ofString "") (cs.map fun c => (⟨#[c]⟩ : Str)) = z8 at hz ⊢
        have hzl : z8.length = 8 := by rw [← tl_len, hz, hcl]
        have hzL : ∀ c ∈ tl z8, isL c = true := by rw [hz]; exact hcL
        have z16 : z8.length ≤ sizeLine := by rw [hzl]; decide
        have s03 := s02.trans sm3
        have hR3 := sm3 _ _ hR2
        refine ⟨.ref R, rfl, R, _, 0, .int g0, rfl, rfl, SqL.of hR3, atI_nat (j := 0) (i_at a0), rfl, _, rfl, ite2 (fun _ => ?_) (fun _ => ?_)⟩
        · refine ⟨.int 6, rfl, 6, rfl, by decide, by decide, fun D2 hD2 => ?_⟩
          refine lc_range (lo := 0) (n := 6) (fun i H' => ∃ zs : List Str, H' D2 = some (.lst (zs.map V.str)) ∧ zs.length = i ∧ (∀ z ∈ zs, Name z) ∧ Same H3 H') ⟨[], upd_same, rfl, fun z h => absurd h List.not_mem_nil, same_new hD2⟩ ?_ ?_
          · rintro i H' hi ⟨zs, hzs, hl, hn, sm⟩
            have e0 : (0 : Int) + (i : Int) + 1 = ((i + 1 : Nat) : Int) := by omega
            refine ⟨rfl, .str z8, rfl, .int (0 + (i : Int)), rfl, _, 1, rfl, rfl, _, rfl, z8, rfl, z16, ?_⟩
            dsimp only
            rw [e0]
            refine ⟨_, hzs, small1000 (by rw [List.length_map]; omega), zs ++ [cutS z8 none (some ((i + 1 : Nat) : Int))], by rw [upd_same, map_snocS], by rw [List.length_append, hl]; rfl, fun x hx => ?_, same_at sm hD2⟩
            rcases List.mem_append.mp hx with h | h
            · exact hn x h
            · rw [List.mem_singleton.mp h]
              refine name_mk ?_ ?_ fun c hc => ?_
              · rw [cut_to, List.length_take, tl_len, hzl]; omega
              · rw [cut_to, List.length_take, tl_len, hzl]; omega
              · rw [cut_to] at hc; exact hzL c (List.mem_of_mem_take hc)
          · rintro H' ⟨zs, hzs, hl, hn, sm⟩
            exact q H' D2 zs (s03.trans sm) (s03.free hD2) hzs hl hn
        · refine ⟨.ref R, rfl, R, _, 2, .int g2, rfl, rfl, SqL.of hR3, atI_nat (j := 2) (i_at a2), .inl ⟨g2, rfl, .ref R, rfl, R, _, 1, .int g1, rfl, rfl, SqL.of hR3, atI_nat (j := 1) (i_at a1), g1, 1, rfl, rfl, g2, g1 + 1, rfl, rfl, (show g1 + 1 ≠ 0 by omega), ?_⟩⟩
          have f0 : 0 ≤ g2.fmod (g1 + 1) := Int.fmod_nonneg_of_pos _ (by omega)
          have f1 : g2.fmod (g1 + 1) < g1 + 1 := Int.fmod_lt_of_pos _ (by omega)
          dsimp only
          generalize g2.fmod (g1 + 1) = at0 at f0 f1 ⊢
          obtain ⟨n, rfl⟩ : ∃ n : Nat, at0 = (n : Int) := ⟨at0.toNat, by omega⟩
          obtain ⟨m, rfl⟩ : ∃ n : Nat, g1 = (n : Int) := ⟨g1.toNat, by omega⟩
          refine ⟨.str z8, rfl, .int (n : Int), rfl, (n : Int), 1, rfl, rfl, _, rfl, .ref R, rfl, R, _, 1, .int (m : Int), rfl, rfl, SqL.of hR3, atI_nat (j := 1) (i_at a1), (m : Int), 1, rfl, rfl, _, rfl, z8, rfl, z16, ?_⟩
          have hbt : tl (cutS z8 (some ((n : Int) + 1)) (some ((m : Int) + 1))) = ((tl z8).drop (n + 1)).take (m - n) := by
            rw [show ((n : Int) + 1) = ((n + 1 : Nat) : Int) by omega, show ((m : Int) + 1) = ((m + 1 : Nat) : Int) by omega, cut_tl, hzl, Nat.min_eq_left (by omega), Nat.min_eq_left (by omega)]
            congr 1; omega
          generalize cutS z8 (some ((n : Int) + 1)) (some ((m : Int) + 1)) = bh at hbt ⊢
          have hbl : bh.length = m - n := by rw [← tl_len, hbt, List.length_take, List.length_drop, tl_len, hzl]; omega
          refine ⟨.int 6, rfl, 6, rfl, by decide, by decide, fun D2 hD2 => ?_⟩
          refine lc_range (lo := 0) (n := 6) (fun i H' => ∃ zs : List Str, H' D2 = some (.lst (zs.map V.str)) ∧ zs.length = i ∧ (∀ z ∈ zs, Name z) ∧ Same H3 H') ⟨[], upd_same, rfl, fun z h => absurd h List.not_mem_nil, same_new hD2⟩ ?_ ?_
          · rintro i H' hi ⟨zs, hzs, hl, hn, sm⟩
            have h26 : 0 ≤ (g3 + (0 + (i : Int))).fmod 26 ∧ (g3 + (0 + (i : Int))).fmod 26 < 26 := ⟨Int.fmod_nonneg_of_pos _ (by decide), Int.fmod_lt_of_pos _ (by decide)⟩
            obtain ⟨ch, c1, c2⟩ := pick (z := letters) h26.1 (by rw [letters_len]; omega)
            have hat : (cutS z8 none (some (n : Int))).length = n := by rw [← tl_len, cut_to, List.length_take, tl_len, hzl]; omega
            refine ⟨rfl, .str z8, rfl, .int (n : Int), rfl, (n : Int), rfl, z8, rfl, z16, .str letters, rfl, .ref R, rfl, R, _, 3, .int g3, rfl, rfl, SqL.of (sm _ _ hR3), atI_nat (j := 3) (i_at a3), .int (0 + (i : Int)), rfl, g3, _, rfl, rfl, .inl ⟨_, rfl, _, 26, rfl, rfl, (show (26 : Int) ≠ 0 by decide), letters, _, ch, rfl, rfl, by rw [letters_len]; decide, c1, _, _, rfl, rfl, ?_, .str bh, rfl, _, _, rfl, rfl, ?_, ?_⟩⟩
            · rw [hat, sizeLine_eq]; show n + 1 ≤ _; omega
            · rw [len_add, hat, hbl, sizeLine_eq]; show n + 1 + (m - n) ≤ _; omega
            refine ⟨_, hzs, small1000 (by rw [List.length_map]; omega), zs ++ [cutS z8 none (some (n : Int)) ++ ⟨#[ch]⟩ ++ bh], by rw [upd_same, map_snocS], by rw [List.length_append, hl]; rfl, fun x hx => ?_, same_at sm hD2⟩
            rcases List.mem_append.mp hx with h | h
            · exact hn x h
            · rw [List.mem_singleton.mp h]
              have e : tl (cutS z8 none (some (n : Int)) ++ (⟨#[ch]⟩ : Str) ++ bh) = (tl z8).take n ++ [ch] ++ ((tl z8).drop (n + 1)).take (m - n) := by rw [tl_add, tl_add, cut_to, hbt]
              have hlen : (tl (cutS z8 none (some (n : Int)) ++ (⟨#[ch]⟩ : Str) ++ bh)).length = m + 1 := by
                rw [tl_len, len_add, len_add, hat, hbl]; show n + 1 + (m - n) = m + 1; omega
              refine name_mk (by rw [hlen]; omega) (by rw [hlen]; omega) fun c hc => ?_
              rw [e] at hc
              rcases List.mem_append.mp hc with h1 | h1
              · rcases List.mem_append.mp h1 with h2 | h2
                · exact hzL c (List.mem_of_mem_take h2)
                · rw [List.mem_singleton.mp h2]; exact letters_L ch c2
              · exact hzL c (List.mem_of_mem_drop (List.mem_of_mem_take h1))
          · rintro H' ⟨zs, hzs, hl, hn, sm⟩
            exact q H' D2 zs (s03.trans sm) (s03.free hD2) hzs hl hn
end
theorem sAt {zs : List Str} {i : Nat} {z : Str} (h : zs[i]? = some z) : (zs.map V.str)[i]? = some (.str z) := by rw [List.getElem?_map, h]; rfl
def sepS (l : Nat) : Str := if l = 0 then Str.ofString " " else if l = 1 then Str.ofString " > " else Str.ofString " + "
theorem tl_sep {l : Nat} (h : l ≤ 2) : tl (sepS l) = sepL l := by
  match l, h with
  | 0, _ => decide +kernel
  | 1, _ => decide +kernel
  | 2, _ => decide +kernel
abbrev sv (l : Nat) : V := .str (sepS l)
theorem sep_len {l : Nat} (h : l ≤ 2) : (sepL l).length ≤ 3 := by
  match l, h with
  | 0, _ => decide
  | 1, _ => decide
  | 2, _ => decide
theorem textL_len {x : Tst} (hx : GoodT x) : ∀ rs : List (Nat × Tst), (∀ r ∈ rs, r.1 ≤ 2 ∧ GoodT r.2) → (textL x rs).length ≤ 17 + 20 * rs.length := fun rs => by
  unfold textL
  induction rs with
  | nil => intro _; have := (word_len hx).2; simpa using this
  | cons r rs ih =>
    intro h
    have h1 := ih fun q hq => h q (List.mem_cons_of_mem _ hq)
    obtain ⟨a, b⟩ := h r List.mem_cons_self
    have h2 := sep_len a; have h3 := (word_len b).2
    simp only [List.flatMap_cons, List.length_append, List.length_cons] at h1 ⊢
    omega
theorem tl_empty : tl (Str.ofString "") = [] := by decide +kernel
theorem add_room {a b : Str} {n : Nat} (ha : (tl a).length ≤ n) (hb : (tl b).length ≤ 100) (hn : n ≤ 800) : a.length + b.length ≤ sizeLine := by
  rw [← tl_len, ← tl_len, sizeLine_eq]; omega

theorem textL_snoc (x : Tst) (rs : List (Nat × Tst)) (r : Nat × Tst) : textL x (rs ++ [r]) = textL x rs ++ sepL r.1 ++ wordL r.2 := by
  unfold textL; simp
/-- n tests, as they are written -/
def WR (n : Nat) (l : List Nat) : Prop := match n with
  | 0 => l = []
  | m + 1 => ∃ x rs, l = textL x rs ∧ GoodT x ∧ (∀ r ∈ rs, r.1 ≤ 2 ∧ GoodT r.2) ∧ rs.length = m
theorem WR.len {n : Nat} {l : List Nat} (h : WR n l) (hn : n ≤ 4) : l.length ≤ 77 := by
  cases n with
  | zero => have : l = [] := h; rw [this]; decide
  | succ m =>
    obtain ⟨x, rs, rfl, gx, gr, hl⟩ := h
    have := textL_len gx rs gr
    omega
theorem WR.one {y : Tst} (gy : GoodT y) : WR 1 (wordL y) := ⟨y, [], by simp [textL], gy, fun r h => absurd h List.not_mem_nil, rfl⟩
theorem WR.more {m : Nat} {l : List Nat} (h : WR (m + 1) l) {y : Tst} (gy : GoodT y) {k : Nat} (hk : k ≤ 2) : WR (m + 2) (l ++ sepL k ++ wordL y) := by
  obtain ⟨x, rs, rfl, gx, gr, hl⟩ := h
  refine ⟨x, rs ++ [(k, y)], (textL_snoc x rs (k, y)).symm, gx, fun r hr => ?_, by rw [List.length_append, hl]; rfl⟩
  rcases List.mem_append.mp hr with h | h
  · exact gr r h
  · rw [List.mem_singleton.mp h]; exact ⟨hk, gy⟩
section
variable {P : Program} {w : World} {K : PySem.W.Frag} {mg : Str → Option Value} {base : Heap} {t1 t2 t3 t4 t5 t6 : Tok}
/-! ### _law_drawn -/
def spDrawn (K : PySem.W.Frag) : Sp := fun vs H Q _ => ∃ (c : Int) (ka ma : Addr) (ks ms : List Str), vs = [.int c, .ref ka, .ref ma] ∧ H ka = some (.lst (ks.map V.str)) ∧ ks.length = 5 ∧ (∀ z ∈ ks, z = starS ∨ Name z) ∧ H ma = some (.lst (ms.map V.str)) ∧ ms.length = 2 ∧ (∀ z ∈ ms, Name z) ∧
  ∀ H' z n, Same H H' → WR (n + 1) (tl z) → n ≤ 3 → Q (.str z) H'
abbrev nDr : List Str := ["_law_cell_here", "_law_kinds", "_law_marks", "_law_row_here", "_law_text", "_law_k"]
theorem scDrawn : FnScope nDr ["_law_cell_here", "_law_kinds", "_law_marks"] (defScope sDrawn) := ⟨rfl, rfl, rfl, by decide +kernel, rfl, by decide +kernel, by decide +kernel⟩
abbrev limF : List Int := [4, 5, 4, 3, 5, 4, 3, 5, 4, 3, 5, 4, 3]
theorem limF_at : ∀ k, k < 4 → limF[3 * k + 1]? = some 5 ∧ limF[3 * k + 2]? = some 4 ∧ (0 < k → limF[3 * k]? = some 3)
  | 0, _ => ⟨rfl, rfl, fun h => absurd h (Nat.lt_irrefl 0)⟩
  | 1, _ => ⟨rfl, rfl, fun _ => rfl⟩
  | 2, _ => ⟨rfl, rfl, fun _ => rfl⟩
  | 3, _ => ⟨rfl, rfl, fun _ => rfl⟩
  | k + 4, h => by omega
theorem sep_at {g : Int} (h0 : 0 ≤ g) (h1 : g < 3) : ∃ l : Nat, l ≤ 2 ∧ atI [V.str (Str.ofString " "), .str (Str.ofString " > "), .str (Str.ofString " + ")] g = some (sv l) := by
  obtain ⟨n, rfl⟩ : ∃ n : Nat, g = (n : Int) := ⟨g.toNat, by omega⟩
  match n, h1 with
  | 0, _ => exact ⟨0, by decide, rfl⟩
  | 1, _ => exact ⟨1, by decide, rfl⟩
  | 2, _ => exact ⟨2, by decide, rfl⟩
  | n + 3, h => omega
theorem ok_drawn {f f_row : Addr} {fd fd_row : FuncData} (B : Blt mg) (F : Fun K "_law_drawn" "_law_drawn" sDrawn f fd)
    (F_row : Fun K "_law_row" "_law_row" sRow f_row fd_row) (b_row : Binds K fd_row ["_law_cell_here", "_law_limits"] []) (g_row : mg "_law_row" = some (.ref f_row)) :
    FnOk P w K mg base CX0 2 f fd ["_law_cell_here", "_law_kinds", "_law_marks"] (spDrawn K) := by
  have G_row : FnOk P w K mg base CX0 1 f_row fd_row ["_law_cell_here", "_law_limits"] (spRow K) := ok_row B F_row
  refine F.ok scDrawn (fun vs H Q E h => ?_) (fun cdv A0 outer s H vs Q E hr h => ?_)
  · obtain ⟨c, ka, ma, ks, ms, rfl, _⟩ := h; rfl
  · obtain ⟨c, ka, ma, ks, ms, rfl, hka, hkl, hkn, hma, hml, hmn, q⟩ := h
    refine ⟨_, (pss_cons (ps_set (i := 3) scDrawn.nd rfl (.inl rfl) (pe_call G_row hr (by rfl) g_row F_row.kp b_row .nil pass0 (pa_cons (pv 0) (pa_cons (pe_lst (pa_cons pe_int (pa_cons pe_int (pa_cons pe_int (pa_cons pe_int (pa_cons pe_int (pa_cons pe_int (pa_cons pe_int (pa_cons pe_int (pa_cons pe_int (pa_cons pe_int (pa_cons pe_int (pa_cons pe_int (pa_cons pe_int pa_nil)))))))))))))) pa_nil))))
      (pss_cons (ps_set (i := 4) scDrawn.nd rfl (.inl rfl) pe_str)
      (pss_cons (ps_for (PassesOwn.never) rfl (pi_range1 (by rfl) B.range (pa_cons (pe_op op_add (pe_ix ix_list (pv 3) pe_int (fun _ _ => rfl)) pe_int) pa_nil)) (pg_name (i := 5) scDrawn.nd rfl (.inl rfl))
      (Evl.pss_cut (ps_if (pt_cmpR op_gt (pv 5) pe_int (nomark _))
       (pss_one (ps_set (i := 4) scDrawn.nd rfl (.inl rfl) (pe_op op_add_str (pv 4) (pe_ix ix_list (pe_lst (pa_cons pe_str (pa_cons pe_str (pa_cons pe_str pa_nil)))) (pe_ix ix_list (pv 3) (pe_op op_mul pe_int (pv 5)) (fun _ _ => rfl)) (fun _ _ => rfl)))))
       pss_nil)
       (pss_cons (ps_set (i := 4) scDrawn.nd rfl (.inl rfl) (pe_op op_add_str (pv 4) (pe_ix ix_list (pv 1) (pe_ix ix_list (pv 3) (pe_op op_add (pe_op op_mul pe_int (pv 5)) pe_int) (fun _ _ => rfl)) (fun _ _ => rfl))))
       (pss_one (ps_if (pt_cmpR op_gt (pe_ix ix_list (pv 3) (pe_op op_add (pe_op op_mul pe_int (pv 5)) pe_int) (fun _ _ => rfl)) pe_int (nomark _))
       (pss_one (ps_set (i := 4) scDrawn.nd rfl (.inl rfl) (pe_op op_add_str (pe_op op_add_str (pv 4) pe_str) (pe_ix ix_list (pv 2) (pe_op op_sub (pe_ix ix_list (pv 3) (pe_op op_add (pe_op op_mul pe_int (pv 5)) pe_int) (fun _ _ => rfl)) pe_int) (fun _ _ => rfl)))))
       pss_nil)))))
      (pss_one (ps_ret (pv 4)))))), ?_⟩
    have kget : ∀ (g : Int), 0 ≤ g → g < 5 → ∃ z, atI (ks.map V.str) g = some (.str z) ∧ (z = starS ∨ Name z) := fun g h0 h1 => by
      have hlt : g.toNat < ks.length := by omega
      refine ⟨ks[g.toNat]'hlt, at_of (j := g.toNat) (by omega) (sAt (List.getElem?_eq_getElem hlt)), hkn _ (List.getElem_mem hlt)⟩
    have mget : ∀ (g : Int), 0 ≤ g → g < 2 → ∃ z, atI (ms.map V.str) g = some (.str z) ∧ Name z := fun g h0 h1 => by
      have hlt : g.toNat < ms.length := by omega
      refine ⟨ms[g.toNat]'hlt, at_of (j := g.toNat) (by omega) (sAt (List.getElem?_eq_getElem hlt)), hmn _ (List.getElem_mem hlt)⟩
    refine ⟨.int c, rfl, by show 13 ≤ sizeLine; decide, fun l0 n0 => ⟨c, l0, limF, rfl, SqL.of upd_same, by decide, by decide, fun H1 R rs s1 nR hR hrow => ?_⟩⟩
    have s01 := (same_new n0 (o := .lst (limF.map V.int))).trans s1
    obtain ⟨g0, a0, b0, d0⟩ := row_at hrow (i := 0) (l := 4) rfl
    obtain ⟨m0, rfl⟩ : ∃ k : Nat, g0 = (k : Int) := ⟨g0.toNat, by omega⟩
    have hm0 : m0 ≤ 3 := by omega
    refine ⟨.ref R, rfl, R, _, 0, .int (m0 : Int), rfl, rfl, SqL.of hR, atI_nat (j := 0) (i_at a0), (m0 : Int), 1, rfl, rfl, (m0 : Int) + 1, rfl, by omega, by omega, ?_⟩
    rw [show ((m0 : Int) + 1).toNat = m0 + 1 by omega]
    refine for_range (lo := 0) (n := m0 + 1) (fun i σ H' => ∃ (z : Str) (y5 : Option V), σ = [some (.int c), some (.ref ka), some (.ref ma), some (.ref R), some (.str z), y5] ∧ Same H1 H' ∧ WR i (tl z)) ⟨_, none, rfl, Same.refl _, tl_empty⟩ ?_ ?_
    · rintro i σ H' hi ⟨z, y5, rfl, sm, hz⟩
      have e0 : (0 : Int) + (i : Int) = (i : Int) := by omega
      rw [e0]
      have hzl := hz.len (by omega)
      obtain ⟨lk1, lk2, lk3⟩ := limF_at i (by omega)
      obtain ⟨r1, e1, p1, u1⟩ := row_at hrow lk1
      obtain ⟨r2, e2, p2, u2⟩ := row_at hrow lk2
      refine ⟨fun σ H2 => ∃ z2 : Str, σ = [some (.int c), some (.ref ka), some (.ref ma), some (.ref R), some (.str z2), some (.int (i : Int))] ∧ Same H1 H2 ∧ (tl z2).length ≤ 80 ∧ ∀ y, GoodT y → WR (i + 1) (tl z2 ++ wordL y), ?_, ?_⟩
      · refine ⟨.int (i : Int), rfl, (i : Int), 0, rfl, rfl, _, rfl, ite2 (fun hk => ?_) (fun hk => ?_)⟩
        · have h0 : 0 < i := by have := of_decide_eq_true hk; omega
          obtain ⟨m, rfl⟩ : ∃ m, i = m + 1 := ⟨i - 1, by omega⟩
          obtain ⟨r3, e3, p3, u3⟩ := row_at hrow (lk3 h0)
          obtain ⟨l, hl2, hat⟩ := sep_at p3 u3
          refine ⟨.str z, rfl, by show 3 ≤ sizeLine; decide, fun l3 n3 => ?_⟩
          have s3 := same_new n3 (o := .lst [.str (Str.ofString " "), .str (Str.ofString " > "), .str (Str.ofString " + ")])
          have h3 : (upd H' l3 (.lst [.str (Str.ofString " "), .str (Str.ofString " > "), .str (Str.ofString " + ")])) l3 = some (.lst [.str (Str.ofString " "), .str (Str.ofString " > "), .str (Str.ofString " + ")]) := upd_same
          generalize upd H' l3 (.lst [.str (Str.ofString " "), .str (Str.ofString " > "), .str (Str.ofString " + ")]) = H3 at s3 h3 ⊢
          have hs3 : (tl (sepS l)).length ≤ 3 := by rw [tl_sep hl2]; exact sep_len hl2
          refine ⟨.ref R, rfl, .int ((m + 1 : Nat) : Int), rfl, 3, ((m + 1 : Nat) : Int), rfl, rfl, .inl ⟨by decide, by decide⟩, R, _, _, .int r3, rfl, rfl, SqL.of (s3 _ _ (sm _ _ hR)), at_of (j := 3 * (m + 1)) (by omega) (i_at e3), l3, _, r3, sv l, rfl, rfl, SqL.of h3, hat, z, sepS l, rfl, rfl, add_room hzl (by omega) (by decide), ?_⟩
          refine ⟨_, rfl, sm.trans s3, by rw [tl_add, List.length_append]; omega, fun y gy => ?_⟩
          rw [tl_add, tl_sep hl2]
          exact hz.more gy hl2
        · have h0 : i = 0 := by
            have h1 : ¬ (i : Int) > 0 := fun h => hk (decide_eq_true h)
            omega
          subst h0
          refine ⟨z, rfl, sm, by omega, fun y gy => ?_⟩
          have : tl z = [] := hz
          rw [this]; exact WR.one gy
      · rintro σ H2 ⟨z2, rfl, sm2, hz2, hw⟩
        obtain ⟨zk, y1, gk⟩ := kget r1 p1 u1
        have s02 := s01.trans sm2
        have hkl8 : (tl zk).length ≤ 8 := by
          rcases gk with h | h
          · rw [h, tl_star]; decide
          · exact h.2.1
        have hl1 : (tl (z2 ++ zk)).length ≤ 88 := by rw [tl_add, List.length_append]; omega
        refine ⟨.str z2, rfl, .ref ka, rfl, .ref R, rfl, .int (i : Int), rfl, 3, (i : Int), rfl, rfl, .inl ⟨by decide, by decide⟩, _, 1, rfl, rfl, R, _, _, .int r1, rfl, rfl, SqL.of (sm2 _ _ hR), at_of (j := 3 * i + 1) (by omega) (i_at e1), ka, _, r1, .str zk, rfl, rfl, SqL.of (s02 _ _ hka), y1, z2, zk, rfl, rfl, add_room hz2 (by omega) (by decide), ?_⟩
        refine ⟨.ref R, rfl, .int (i : Int), rfl, 3, (i : Int), rfl, rfl, .inl ⟨by decide, by decide⟩, _, 2, rfl, rfl, R, _, _, .int r2, rfl, rfl, SqL.of (sm2 _ _ hR), at_of (j := 3 * i + 2) (by omega) (i_at e2), r2, 1, rfl, rfl, _, rfl, ite2 (fun hk => ?_) (fun hk => ?_)⟩
        · have h2 : 1 < r2 := by have := of_decide_eq_true hk; omega
          obtain ⟨zm, y2, gm⟩ := mget (r2 - 2) (by omega) (by omega)
          refine ⟨.str (z2 ++ zk), rfl, z2 ++ zk, _, rfl, rfl, add_room hl1 (by decide +kernel) (by decide), .ref ma, rfl, .ref R, rfl, .int (i : Int), rfl, 3, (i : Int), rfl, rfl, .inl ⟨by decide, by decide⟩, _, 2, rfl, rfl, R, _, _, .int r2, rfl, rfl, SqL.of (sm2 _ _ hR), at_of (j := 3 * i + 2) (by omega) (i_at e2), r2, 2, rfl, rfl, ma, _, r2 - 2, .str zm, rfl, rfl, SqL.of (s02 _ _ hma), y2, _, zm, rfl, rfl, add_room (n := 89) (by rw [tl_add, List.length_append]; show _ + 1 ≤ _; omega) (by have := gm.2.1; omega) (by decide), ?_⟩
          refine ⟨_, _, rfl, sm2, ?_⟩
          have hne : tl zm ≠ [] := fun e => by have := gm.1; rw [e] at this; simp at this
          have h3 := hw (zk, zm) ⟨gk, .inr gm⟩
          unfold wordL at h3
          rw [if_neg hne] at h3
          rw [tl_add, tl_add, tl_add, show tl (Str.ofString ".") = [46] from tl_dot]
          simpa using h3
        · refine ⟨_, _, rfl, sm2, ?_⟩
          have h3 := hw (zk, Str.ofString "") ⟨gk, .inl tl_empty⟩
          unfold wordL at h3
          rw [if_pos tl_empty, List.append_nil] at h3
          rw [tl_add]; exact h3
    · rintro σ H' ⟨z, y5, rfl, sm, hz⟩
      exact ⟨.str z, rfl, q H' z m0 (s01.trans sm) hz hm0⟩
end
/-! ### what is drawn reads -/
theorem kL_app {a b : List Nat} (h : 46 ∉ a) : kL (a ++ 46 :: b) = a ∧ mL (a ++ 46 :: b) = b := by
  unfold kL mL
  induction a with
  | nil => exact ⟨by simp, by simp⟩
  | cons c a ih =>
    have hc : c ≠ 46 := fun e => h (by rw [e]; exact List.mem_cons_self)
    obtain ⟨i1, i2⟩ := ih fun e => h (List.mem_cons_of_mem _ e)
    rw [List.cons_append, List.takeWhile_cons, List.dropWhile_cons, if_pos (decide_eq_true hc), if_pos (decide_eq_true hc)]
    exact ⟨by rw [i1], i2⟩
theorem word_parts {z : Str} {y : Tst} (gy : GoodT y) (hz : tl z = wordL y) : lnkB z = false ∧ ∃ x, testOf z = some x := by
  have hk46 : 46 ∉ tl y.1 := kind_free gy (by decide) (by decide)
  have hm46 : 46 ∉ tl y.2 := mark_free gy.2 (by decide)
  constructor
  · unfold lnkB
    have hk := (kind_len gy).1
    have h1 : ∀ s : Nat, s < 97 → s ≠ 42 → s ≠ 46 → tl z ≠ [s] := fun s h97 h42 hd e => by
      have hf := word_free gy h97 h42 hd
      rw [← hz, e] at hf; simp at hf
    rw [decide_eq_false (fun e => h1 62 (by decide) (by decide) (by decide) (by rw [e]; decide +kernel)), decide_eq_false (fun e => h1 43 (by decide) (by decide) (by decide) (by rw [e]; decide +kernel))]; rfl
  · have hg : goodB z = true := by
      have gk : (decide (y.1 = starS) || nameB (tl y.1)) = true := by
        rcases gy.1 with h | h
        · rw [h, decide_eq_true rfl]; rfl
        · rw [nameB_iff.mpr h, Bool.or_true]
      unfold goodB
      by_cases he : tl y.2 = []
      · have hzz : tl z = tl y.1 := by rw [hz]; unfold wordL; rw [if_pos he, List.append_nil]
        have hd : dB (tl z) = false := decide_eq_false (by rw [hzz]; exact hk46)
        have ek : kS z = y.1 := str_eq (by rw [tl_kS, (cut_nodot hd).1, hzz])
        rw [ek, gk, hd]; rfl
      · have hzz : tl z = tl y.1 ++ 46 :: tl y.2 := by rw [hz]; unfold wordL; rw [if_neg he]
        have hd : dB (tl z) = true := decide_eq_true (by rw [hzz]; simp)
        obtain ⟨hkl0, hml0⟩ := kL_app (a := tl y.1) (b := tl y.2) hk46
        have hkl : kL (tl z) = tl y.1 := by rw [hzz]; exact hkl0
        have hml : mL (tl z) = tl y.2 := by rw [hzz]; exact hml0
        have ek : kS z = y.1 := str_eq (by rw [tl_kS, hkl])
        have em : mS z = y.2 := str_eq (by rw [tl_mS, hml])
        have gm : nameB (tl y.2) = true := by
          rcases gy.2 with h | h
          · exact absurd h he
          · exact nameB_iff.mpr h
        rw [ek, gk, em, gm, Bool.or_true]; rfl
    exact ⟨_, by unfold testOf; rw [if_pos hg]⟩
theorem run_toks : ∀ (tk : List Tk) (ws : List Str) (s : Ps) (ts : List Tst) (lk : Bool), okTk s tk → ws.map tl = tk.map encT → ts.length = s.1.length → lk = decide (s.1 ≠ [] ∧ s.2.2 = 0) →
    ∃ ts' lk', ws.foldl stepR (some (ts, lk)) = some (ts', lk') ∧ ts'.length = (tk.foldl stp s).1.length ∧ lk' = decide ((tk.foldl stp s).1 ≠ [] ∧ (tk.foldl stp s).2.2 = 0)
  | [], ws, s, ts, lk, _, hw, hl, hk => by
    have : ws = [] := by simpa using hw
    subst this
    exact ⟨ts, lk, rfl, hl, hk⟩
  | .lnk l :: tk, [], s, ts, lk, _, hw, _, _ => by simp at hw
  | .tst x :: tk, [], s, ts, lk, _, hw, _, _ => by simp at hw
  | .lnk l :: tk, w :: ws, s, ts, lk, ok, hw, hl, hk => by
    obtain ⟨o1, o2, o3, o4⟩ := ok
    rw [List.map_cons, List.map_cons] at hw
    have h1 := (List.cons.inj hw).1
    have h2 := (List.cons.inj hw).2
    have hkt : lk = true := by rw [hk]; exact decide_eq_true ⟨o1, o2⟩
    have hlk : lnkB w = true := by
      unfold lnkB
      rcases o3 with h | h
      · subst h
        have : w = gtS := str_eq (by rw [h1]; decide +kernel)
        rw [this, decide_eq_true rfl]; rfl
      · subst h
        have : w = plS := str_eq (by rw [h1]; decide +kernel)
        rw [this, decide_eq_true (p := plS = plS) rfl, Bool.or_true]
    have hst : stepR (some (ts, lk)) w = some (ts, false) := by simp only [stepR]; rw [hkt, hlk]; rfl
    rw [List.foldl_cons, hst, List.foldl_cons]
    obtain ⟨a, b, c⟩ := s
    refine run_toks tk ws _ ts false o4 h2 hl ?_
    show false = decide (a ≠ [] ∧ l = 0)
    rw [decide_eq_false (by omega)]
  | .tst x :: tk, w :: ws, s, ts, lk, ok, hw, hl, hk => by
    obtain ⟨o1, o2⟩ := ok
    rw [List.map_cons, List.map_cons] at hw
    have h1 := (List.cons.inj hw).1
    have h2 := (List.cons.inj hw).2
    obtain ⟨hlk, y, hy⟩ := word_parts o1 h1
    have hst : stepR (some (ts, lk)) w = some (ts ++ [y], true) := by simp only [stepR]; rw [hlk, Bool.and_false, if_neg Bool.false_ne_true, hy]
    rw [List.foldl_cons, hst, List.foldl_cons]
    obtain ⟨a, b, c⟩ := s
    refine run_toks tk ws _ (ts ++ [y]) true o2 h2 ?_ ?_
    · show (ts ++ [y]).length = (a ++ [x]).length
      rw [List.length_append, List.length_append, hl]; rfl
    · show true = decide (a ++ [x] ≠ [] ∧ (0 : Nat) = 0)
      rw [decide_eq_true ⟨by simp, rfl⟩]
theorem good_reads {z : Str} {n : Nat} (h : WR (n + 1) (tl z)) (hn : n ≤ 3) : ∃ ts, rdT (wds z) = some ts := by
  obtain ⟨x, rs, hz, gx, gr, hl⟩ := h
  obtain ⟨k1, k2⟩ := toks_ok gx gr
  have hw : (wds z).map tl = (toks x rs).map encT := split_toks (by rw [join_toks]; exact hz) (by simp [toks]) k1
  obtain ⟨ts, lk, e1, e2, e3⟩ := run_toks (toks x rs) (wds z) ([], [], 0) [] false k1 hw rfl (by simp)
  rw [k2] at e2 e3
  have hlk : lk = true := by rw [e3]; exact decide_eq_true ⟨by simp, rfl⟩
  have h4 : ts.length ≤ 4 := by rw [e2, List.length_cons, List.length_map]; omega
  refine ⟨ts, ?_⟩
  unfold rdT runR
  rw [e1, hlk]; simp only; rw [if_pos h4]
end K10

set_option maxRecDepth 100000
set_option maxHeartbeats 4000000
namespace K10
open PySem PySem.Spec PyProof.Rows L2
def odds : List Str := (["", " ", "*", ".", "+", ">", "a >", "> a", "+ a", "a +", "a + + b", "a > > b", "a > + b", "a  b", " a", "a ", "a.b.c", "a.", ".b", "**", "*.*", "A", "a1", "abcdefgh", "abcdefghi", "a.abcdefghi", "a>b", "a +b", "a b c d e", "a > b + c.x * > *.y"] : List String).map Str.ofString
theorem odds_len : odds.length = 30 := by decide +kernel
theorem odds_ok : ∀ z ∈ odds, z.length ≤ 40 := by decide +kernel
def signs : Str := Str.ofString " !\"#$&'()*+,-./0123456789:;<=>?@ABCDEFGHIJKLMNOPQRSTUVWXYZ^_`abcdefghijklmnopqrstuvwxyz{|}~"
theorem signs_len : signs.length = 91 := by decide +kernel
def few : Str := Str.ofString " .*>+az"
theorem few_len : few.length = 7 := by decide +kernel
theorem cut_l1 (z : Str) {t : Nat} (h : t ≤ z.length) : (cutS z none (some (t : Int))).length = t := by
  rw [← tl_len, cut_to, List.length_take, tl_len]; omega
theorem cut_l2 (z : Str) (t : Nat) : (cutS z (some (t : Int)) none).length = z.length - t := by
  rw [← tl_len, cut_from, List.length_drop, tl_len]
theorem cut_l3 (z : Str) (a b : Nat) : (cutS z (some (a : Int)) (some (b : Int))).length ≤ b - a := by
  rw [← tl_len, cut_tl, List.length_take]; omega
section
variable {P : Program} {w : World} {K : PySem.W.Frag} {mg : Str → Option Value} {base : Heap} {t1 t2 t3 t4 t5 t6 : Tok}
/-! ### _law_odd -/
def spOdd : Sp := fun vs H Q _ => ∃ (c : Int), vs = [.int c] ∧ ∀ H' z, Same H H' → z.length ≤ 40 → Q (.str z) H'
theorem scOdd : FnScope ["_law_pick", "_law_texts"] ["_law_pick"] (defScope sOdd) := ⟨rfl, rfl, rfl, by decide +kernel, rfl, by decide +kernel, by decide +kernel⟩
theorem ok_odd {f : Addr} {fd : FuncData} (B : Blt mg) (F : Fun K "_law_odd" "_law_odd" sOdd f fd) : FnOk P w K mg base CX0 1 f fd ["_law_pick"] spOdd := by
  refine F.ok scOdd (fun vs H Q E h => ?_) (fun cdv A0 outer s H vs Q E hr h => ?_)
  · obtain ⟨c, rfl, _⟩ := h; rfl
  · obtain ⟨c, rfl, q⟩ := h
    refine ⟨_, (pss_cons (ps_set (i := 1) scOdd.nd rfl (.inl rfl) (pe_lst (pa_cons pe_str (pa_cons pe_str (pa_cons pe_str (pa_cons pe_str (pa_cons pe_str (pa_cons pe_str (pa_cons pe_str (pa_cons pe_str (pa_cons pe_str (pa_cons pe_str (pa_cons pe_str (pa_cons pe_str (pa_cons pe_str pa_nil)))))))))))))))
      (pss_cons (ps_set (i := 1) scOdd.nd rfl (.inl rfl) (pe_op op_cat (pv 1) (pe_lst (pa_cons pe_str (pa_cons pe_str (pa_cons pe_str pa_nil))))))
      (pss_cons (ps_set (i := 1) scOdd.nd rfl (.inl rfl) (pe_op op_cat (pv 1) (pe_lst (pa_cons pe_str (pa_cons pe_str (pa_cons pe_str (pa_cons pe_str (pa_cons pe_str (pa_cons pe_str (pa_cons pe_str (pa_cons pe_str (pa_cons pe_str (pa_cons pe_str (pa_cons pe_str (pa_cons pe_str pa_nil)))))))))))))))
      (pss_one (ps_ret (pe_ix ix_list (pe_op op_cat (pv 1) (pe_lst (pa_cons pe_str (pa_cons pe_str pa_nil)))) (pe_op op_modN (pe_callTy call_int1 (by rfl) B.int (by decide +kernel) (pa_cons (pv 0) pa_nil)) pe_int) (fun _ _ => rfl))))))), ?_⟩
    refine ⟨by show 13 ≤ sizeLine; decide, fun a1 n1 => ?_⟩
    have s1 := same_new n1 (o := .lst [.str (Str.ofString ""), .str (Str.ofString " "), .str (Str.ofString "*"), .str (Str.ofString "."), .str (Str.ofString "+"), .str (Str.ofString ">"), .str (Str.ofString "a >"), .str (Str.ofString "> a"), .str (Str.ofString "+ a"), .str (Str.ofString "a +"), .str (Str.ofString "a + + b"), .str (Str.ofString "a > > b"), .str (Str.ofString "a > + b")])
    have h1 : (upd H a1 (.lst [.str (Str.ofString ""), .str (Str.ofString " "), .str (Str.ofString "*"), .str (Str.ofString "."), .str (Str.ofString "+"), .str (Str.ofString ">"), .str (Str.ofString "a >"), .str (Str.ofString "> a"), .str (Str.ofString "+ a"), .str (Str.ofString "a +"), .str (Str.ofString "a + + b"), .str (Str.ofString "a > > b"), .str (Str.ofString "a > + b")])) a1 = some (.lst [.str (Str.ofString ""), .str (Str.ofString " "), .str (Str.ofString "*"), .str (Str.ofString "."), .str (Str.ofString "+"), .str (Str.ofString ">"), .str (Str.ofString "a >"), .str (Str.ofString "> a"), .str (Str.ofString "+ a"), .str (Str.ofString "a +"), .str (Str.ofString "a + + b"), .str (Str.ofString "a > > b"), .str (Str.ofString "a > + b")]) := upd_same
    generalize upd H a1 (.lst [.str (Str.ofString ""), .str (Str.ofString " "), .str (Str.ofString "*"), .str (Str.ofString "."), .str (Str.ofString "+"), .str (Str.ofString ">"), .str (Str.ofString "a >"), .str (Str.ofString "> a"), .str (Str.ofString "+ a"), .str (Str.ofString "a +"), .str (Str.ofString "a + + b"), .str (Str.ofString "a > > b"), .str (Str.ofString "a > + b")]) = H1 at s1 h1 ⊢
    refine ⟨.ref a1, rfl, by show 3 ≤ sizeLine; decide, fun a2 n2 => ⟨a1, a2, _, _, rfl, rfl, same_new n2 _ _ h1, upd_same, by show 13 + 3 ≤ sizeLine; decide, fun a3 n3 => ?_⟩⟩
    have s3 := s1.trans ((same_new n2 (o := .lst [.str (Str.ofString "a  b"), .str (Str.ofString " a"), .str (Str.ofString "a ")])).trans (same_new n3 (o := .lst ([.str (Str.ofString ""), .str (Str.ofString " "), .str (Str.ofString "*"), .str (Str.ofString "."), .str (Str.ofString "+"), .str (Str.ofString ">"), .str (Str.ofString "a >"), .str (Str.ofString "> a"), .str (Str.ofString "+ a"), .str (Str.ofString "a +"), .str (Str.ofString "a + + b"), .str (Str.ofString "a > > b"), .str (Str.ofString "a > + b")] ++ [.str (Str.ofString "a  b"), .str (Str.ofString " a"), .str (Str.ofString "a ")]))))
    have h3 : (upd (upd H1 a2 (.lst [.str (Str.ofString "a  b"), .str (Str.ofString " a"), .str (Str.ofString "a ")])) a3 (.lst ([.str (Str.ofString ""), .str (Str.ofString " "), .str (Str.ofString "*"), .str (Str.ofString "."), .str (Str.ofString "+"), .str (Str.ofString ">"), .str (Str.ofString "a >"), .str (Str.ofString "> a"), .str (Str.ofString "+ a"), .str (Str.ofString "a +"), .str (Str.ofString "a + + b"), .str (Str.ofString "a > > b"), .str (Str.ofString "a > + b")] ++ [.str (Str.ofString "a  b"), .str (Str.ofString " a"), .str (Str.ofString "a ")]))) a3 = some (.lst ([.str (Str.ofString ""), .str (Str.ofString " "), .str (Str.ofString "*"), .str (Str.ofString "."), .str (Str.ofString "+"), .str (Str.ofString ">"), .str (Str.ofString "a >"), .str (Str.ofString "> a"), .str (Str.ofString "+ a"), .str (Str.ofString "a +"), .str (Str.ofString "a + + b"), .str (Str.ofString "a > > b"), .str (Str.ofString "a > + b")] ++ [.str (Str.ofString "a  b"), .str (Str.ofString " a"), .str (Str.ofString "a ")])) := upd_same
    generalize upd (upd H1 a2 (.lst [.str (Str.ofString "a  b"), .str (Str.ofString " a"), .str (Str.ofString "a ")])) a3 (.lst ([.str (Str.ofString ""), .str (Str.ofString " "), .str (Str.ofString "*"), .str (Str.ofString "."), .str (Str.ofString "+"), .str (Str.ofString ">"), .str (Str.ofString "a >"), .str (Str.ofString "> a"), .str (Str.ofString "+ a"), .str (Str.ofString "a +"), .str (Str.ofString "a + + b"), .str (Str.ofString "a > > b"), .str (Str.ofString "a > + b")] ++ [.str (Str.ofString "a  b"), .str (Str.ofString " a"), .str (Str.ofString "a ")])) = H3 at s3 h3 ⊢
    refine ⟨.ref a3, rfl, by show 12 ≤ sizeLine; decide, fun a4 n4 => ⟨a3, a4, _, _, rfl, rfl, same_new n4 _ _ h3, upd_same, by show 16 + 12 ≤ sizeLine; decide, fun a5 n5 => ?_⟩⟩
    have s5 := s3.trans ((same_new n4 (o := .lst [.str (Str.ofString "a.b.c"), .str (Str.ofString "a."), .str (Str.ofString ".b"), .str (Str.ofString "**"), .str (Str.ofString "*.*"), .str (Str.ofString "A"), .str (Str.ofString "a1"), .str (Str.ofString "abcdefgh"), .str (Str.ofString "abcdefghi"), .str (Str.ofString "a.abcdefghi"), .str (Str.ofString "a>b"), .str (Str.ofString "a +b")])).trans (same_new n5 (o := .lst ([.str (Str.ofString ""), .str (Str.ofString " "), .str (Str.ofString "*"), .str (Str.ofString "."), .str (Str.ofString "+"), .str (Str.ofString ">"), .str (Str.ofString "a >"), .str (Str.ofString "> a"), .str (Str.ofString "+ a"), .str (Str.ofString "a +"), .str (Str.ofString "a + + b"), .str (Str.ofString "a > > b"), .str (Str.ofString "a > + b")] ++ [.str (Str.ofString "a  b"), .str (Str.ofString " a"), .str (Str.ofString "a ")] ++ [.str (Str.ofString "a.b.c"), .str (Str.ofString "a."), .str (Str.ofString ".b"), .str (Str.ofString "**"), .str (Str.ofString "*.*"), .str (Str.ofString "A"), .str (Str.ofString "a1"), .str (Str.ofString "abcdefgh"), .str (Str.ofString "abcdefghi"), .str (Str.ofString "a.abcdefghi"), .str (Str.ofString "a>b"), .str (Str.ofString "a +b")]))))
    have h5 : (upd (upd H3 a4 (.lst [.str (Str.ofString "a.b.c"), .str (Str.ofString "a."), .str (Str.ofString ".b"), .str (Str.ofString "**"), .str (Str.ofString "*.*"), .str (Str.ofString "A"), .str (Str.ofString "a1"), .str (Str.ofString "abcdefgh"), .str (Str.ofString "abcdefghi"), .str (Str.ofString "a.abcdefghi"), .str (Str.ofString "a>b"), .str (Str.ofString "a +b")])) a5 (.lst ([.str (Str.ofString ""), .str (Str.ofString " "), .str (Str.ofString "*"), .str (Str.ofString "."), .str (Str.ofString "+"), .str (Str.ofString ">"), .str (Str.ofString "a >"), .str (Str.ofString "> a"), .str (Str.ofString "+ a"), .str (Str.ofString "a +"), .str (Str.ofString "a + + b"), .str (Str.ofString "a > > b"), .str (Str.ofString "a > + b")] ++ [.str (Str.ofString "a  b"), .str (Str.ofString " a"), .str (Str.ofString "a ")] ++ [.str (Str.ofString "a.b.c"), .str (Str.ofString "a."), .str (Str.ofString ".b"), .str (Str.ofString "**"), .str (Str.ofString "*.*"), .str (Str.ofString "A"), .str (Str.ofString "a1"), .str (Str.ofString "abcdefgh"), .str (Str.ofString "abcdefghi"), .str (Str.ofString "a.abcdefghi"), .str (Str.ofString "a>b"), .str (Str.ofString "a +b")]))) a5 = some (.lst ([.str (Str.ofString ""), .str (Str.ofString " "), .str (Str.ofString "*"), .str (Str.ofString "."), .str (Str.ofString "+"), .str (Str.ofString ">"), .str (Str.ofString "a >"), .str (Str.ofString "> a"), .str (Str.ofString "+ a"), .str (Str.ofString "a +"), .str (Str.ofString "a + + b"), .str (Str.ofString "a > > b"), .str (Str.ofString "a > + b")] ++ [.str (Str.ofString "a  b"), .str (Str.ofString " a"), .str (Str.ofString "a ")] ++ [.str (Str.ofString "a.b.c"), .str (Str.ofString "a."), .str (Str.ofString ".b"), .str (Str.ofString "**"), .str (Str.ofString "*.*"), .str (Str.ofString "A"), .str (Str.ofString "a1"), .str (Str.ofString "abcdefgh"), .str (Str.ofString "abcdefghi"), .str (Str.ofString "a.abcdefghi"), .str (Str.ofString "a>b"), .str (Str.ofString "a +b")])) := upd_same
    generalize upd (upd H3 a4 (.lst [.str (Str.ofString "a.b.c"), .str (Str.ofString "a."), .str (Str.ofString ".b"), .str (Str.ofString "**"), .str (Str.ofString "*.*"), .str (Str.ofString "A"), .str (Str.ofString "a1"), .str (Str.ofString "abcdefgh"), .str (Str.ofString "abcdefghi"), .str (Str.ofString "a.abcdefghi"), .str (Str.ofString "a>b"), .str (Str.ofString "a +b")])) a5 (.lst ([.str (Str.ofString ""), .str (Str.ofString " "), .str (Str.ofString "*"), .str (Str.ofString "."), .str (Str.ofString "+"), .str (Str.ofString ">"), .str (Str.ofString "a >"), .str (Str.ofString "> a"), .str (Str.ofString "+ a"), .str (Str.ofString "a +"), .str (Str.ofString "a + + b"), .str (Str.ofString "a > > b"), .str (Str.ofString "a > + b")] ++ [.str (Str.ofString "a  b"), .str (Str.ofString " a"), .str (Str.ofString "a ")] ++ [.str (Str.ofString "a.b.c"), .str (Str.ofString "a."), .str (Str.ofString ".b"), .str (Str.ofString "**"), .str (Str.ofString "*.*"), .str (Str.ofString "A"), .str (Str.ofString "a1"), .str (Str.ofString "abcdefgh"), .str (Str.ofString "abcdefghi"), .str (Str.ofString "a.abcdefghi"), .str (Str.ofString "a>b"), .str (Str.ofString "a +b")])) = H5 at s5 h5 ⊢
    refine ⟨.ref a5, rfl, by show 2 ≤ sizeLine; decide, fun a6 n6 => ⟨a5, a6, _, _, rfl, rfl, same_new n6 _ _ h5, upd_same, by show 28 + 2 ≤ sizeLine; decide, fun a7 n7 => ?_⟩⟩
    have s7 := s5.trans ((same_new n6 (o := .lst [.str (Str.ofString "a b c d e"), .str (Str.ofString "a > b + c.x * > *.y")])).trans (same_new n7 (o := .lst ([.str (Str.ofString ""), .str (Str.ofString " "), .str (Str.ofString "*"), .str (Str.ofString "."), .str (Str.ofString "+"), .str (Str.ofString ">"), .str (Str.ofString "a >"), .str (Str.ofString "> a"), .str (Str.ofString "+ a"), .str (Str.ofString "a +"), .str (Str.ofString "a + + b"), .str (Str.ofString "a > > b"), .str (Str.ofString "a > + b")] ++ [.str (Str.ofString "a  b"), .str (Str.ofString " a"), .str (Str.ofString "a ")] ++ [.str (Str.ofString "a.b.c"), .str (Str.ofString "a."), .str (Str.ofString ".b"), .str (Str.ofString "**"), .str (Str.ofString "*.*"), .str (Str.ofString "A"), .str (Str.ofString "a1"), .str (Str.ofString "abcdefgh"), .str (Str.ofString "abcdefghi"), .str (Str.ofString "a.abcdefghi"), .str (Str.ofString "a>b"), .str (Str.ofString "a +b")] ++ [.str (Str.ofString "a b c d e"), .str (Str.ofString "a > b + c.x * > *.y")]))))
    have h7 : (upd (upd H5 a6 (.lst [.str (Str.ofString "a b c d e"), .str (Str.ofString "a > b + c.x * > *.y")])) a7 (.lst ([.str (Str.ofString ""), .str (Str.ofString " "), .str (Str.ofString "*"), .str (Str.ofString "."), .str (Str.ofString "+"), .str (Str.ofString ">"), .str (Str.ofString "a >"), .str (Str.ofString "> a"), .str (Str.ofString "+ a"), .str (Str.ofString "a +"), .str (Str.ofString "a + + b"), .str (Str.ofString "a > > b"), .str (Str.ofString "a > + b")] ++ [.str (Str.ofString "a  b"), .str (Str.ofString " a"), .str (Str.ofString "a ")] ++ [.str (Str.ofString "a.b.c"), .str (Str.ofString "a."), .str (Str.ofString ".b"), .str (Str.ofString "**"), .str (Str.ofString "*.*"), .str (Str.ofString "A"), .str (Str.ofString "a1"), .str (Str.ofString "abcdefgh"), .str (Str.ofString "abcdefghi"), .str (Str.ofString "a.abcdefghi"), .str (Str.ofString "a>b"), .str (Str.ofString "a +b")] ++ [.str (Str.ofString "a b c d e"), .str (Str.ofString "a > b + c.x * > *.y")]))) a7 = some (.lst (odds.map V.str)) := upd_same
    generalize upd (upd H5 a6 (.lst [.str (Str.ofString "a b c d e"), .str (Str.ofString "a > b + c.x * > *.y")])) a7 (.lst ([.str (Str.ofString ""), .str (Str.ofString " "), .str (Str.ofString "*"), .str (Str.ofString "."), .str (Str.ofString "+"), .str (Str.ofString ">"), .str (Str.ofString "a >"), .str (Str.ofString "> a"), .str (Str.ofString "+ a"), .str (Str.ofString "a +"), .str (Str.ofString "a + + b"), .str (Str.ofString "a > > b"), .str (Str.ofString "a > + b")] ++ [.str (Str.ofString "a  b"), .str (Str.ofString " a"), .str (Str.ofString "a ")] ++ [.str (Str.ofString "a.b.c"), .str (Str.ofString "a."), .str (Str.ofString ".b"), .str (Str.ofString "**"), .str (Str.ofString "*.*"), .str (Str.ofString "A"), .str (Str.ofString "a1"), .str (Str.ofString "abcdefgh"), .str (Str.ofString "abcdefghi"), .str (Str.ofString "a.abcdefghi"), .str (Str.ofString "a>b"), .str (Str.ofString "a +b")] ++ [.str (Str.ofString "a b c d e"), .str (Str.ofString "a > b + c.x * > *.y")])) = H7 at s7 h7 ⊢
    have hf0 : 0 ≤ c.fmod 30 ∧ c.fmod 30 < 30 := ⟨Int.fmod_nonneg_of_pos _ (by decide), Int.fmod_lt_of_pos _ (by decide)⟩
    have hlt : (c.fmod 30).toNat < odds.length := by rw [odds_len]; omega
    exact ⟨.int c, rfl, .inl ⟨c, rfl, _, 30, rfl, rfl, (show (30 : Int) ≠ 0 by decide), a7, _, _, .str (odds[(c.fmod 30).toNat]'hlt), rfl, rfl, SqL.of h7, at_of (j := (c.fmod 30).toNat) (by show c.fmod 30 = _; omega) (sAt (List.getElem?_eq_getElem hlt)), q _ _ s7 (odds_ok _ (List.getElem_mem hlt))⟩⟩
/-! ### _law_bent -/
def spBent : Sp := fun vs H Q _ => ∃ (c : Int) (z : Str), vs = [.int c, .str z] ∧ z.length ≤ 200 ∧ ∀ H' y, Same H H' → y.length ≤ max 40 (z.length + 2) → Q (.str y) H'
abbrev nBe : List Str := ["_law_cell_here", "_law_text", "_law_row_here", "_law_signs", "_law_at", "_law_sign", "_law_pair"]
theorem scBent : FnScope nBe ["_law_cell_here", "_law_text"] (defScope sBent) := ⟨rfl, rfl, rfl, by decide +kernel, rfl, by decide +kernel, by decide +kernel⟩
theorem ok_bent {f f_row f_odd : Addr} {fd fd_row fd_odd : FuncData} (B : Blt mg) (F : Fun K "_law_bent" "_law_bent" sBent f fd)
    (F_row : Fun K "_law_row" "_law_row" sRow f_row fd_row) (b_row : Binds K fd_row ["_law_cell_here", "_law_limits"] []) (g_row : mg "_law_row" = some (.ref f_row))
    (F_odd : Fun K "_law_odd" "_law_odd" sOdd f_odd fd_odd) (b_odd : Binds K fd_odd ["_law_pick"] []) (g_odd : mg "_law_odd" = some (.ref f_odd)) :
    FnOk P w K mg base CX0 2 f fd ["_law_cell_here", "_law_text"] spBent := by
  have G_row : FnOk P w K mg base CX0 1 f_row fd_row ["_law_cell_here", "_law_limits"] (spRow K) := ok_row B F_row
  have G_odd : FnOk P w K mg base CX0 1 f_odd fd_odd ["_law_pick"] spOdd := ok_odd B F_odd
  refine F.ok scBent (fun vs H Q E h => ?_) (fun cdv A0 outer s H vs Q E hr h => ?_)
  · obtain ⟨c, z, rfl, _⟩ := h; rfl
  · obtain ⟨c, z, rfl, hz, q⟩ := h
    have hr1 : Room 1 _ := hr
    refine ⟨_, (pss_cons (ps_set (i := 2) scBent.nd rfl (.inl rfl) (pe_call G_row hr1 (by rfl) g_row F_row.kp b_row .nil pass0 (pa_cons (pv 0) (pa_cons (pe_lst (pa_cons pe_int (pa_cons pe_int (pa_cons pe_int (pa_cons pe_int pa_nil))))) pa_nil))))
      (pss_cons (ps_set (i := 3) scBent.nd rfl (.inl rfl) pe_str)
      (pss_cons (ps_set (i := 4) scBent.nd rfl (.inl rfl) (pe_op op_modN (pe_callTy call_int1 (by rfl) B.int (by decide +kernel) (pa_cons (pe_ix ix_list (pv 2) pe_int (fun _ _ => rfl)) pa_nil)) (pe_op op_add (pe_callB call_len (by rfl) B.len PySem.boot_len (pa_cons (pv 1) pa_nil)) pe_int)))
      (pss_cons (ps_set (i := 5) scBent.nd rfl (.inl rfl) (pe_ix ix_str (pv 3) (pe_ix ix_list (pv 2) pe_int (fun _ _ => rfl)) (fun _ _ => rfl)))
      (Evl.pss_cut (ps_if (pt_cmpR op_gt (pe_ix ix_list (pv 2) pe_int (fun _ _ => rfl)) pe_int (nomark _))
      (pss_one (ps_set (i := 5) scBent.nd rfl (.inl rfl) (pe_ix ix_str pe_str (pe_op op_modN (pe_callTy call_int1 (by rfl) B.int (by decide +kernel) (pa_cons (pe_ix ix_list (pv 2) pe_int (fun _ _ => rfl)) pa_nil)) pe_int) (fun _ _ => rfl))))
      pss_nil)
      (pss_cons (ps_if (pt_cmpR op_eq (pe_ix ix_list (pv 2) pe_int (fun _ _ => rfl)) pe_int (nomark _))
      (pss_one (ps_ret (pe_op op_add_str (pe_slice sl_str (pv 1) po_none (po_some (pv 4))) (pe_slice sl_str (pv 1) (po_some (pe_op op_add (pv 4) pe_int)) po_none))))
      pss_nil)
      (pss_cons (ps_if (pt_cmpR op_eq (pe_ix ix_list (pv 2) pe_int (fun _ _ => rfl)) pe_int (nomark _))
      (pss_one (ps_ret (pe_op op_add_str (pe_op op_add_str (pe_slice sl_str (pv 1) po_none (po_some (pv 4))) (pv 5)) (pe_slice sl_str (pv 1) (po_some (pv 4)) po_none))))
      pss_nil)
      (pss_cons (ps_if (pt_cmpR op_eq (pe_ix ix_list (pv 2) pe_int (fun _ _ => rfl)) pe_int (nomark _))
      (pss_one (ps_ret (pe_op op_add_str (pe_op op_add_str (pe_slice sl_str (pv 1) po_none (po_some (pv 4))) (pv 5)) (pe_slice sl_str (pv 1) (po_some (pe_op op_add (pv 4) pe_int)) po_none))))
      pss_nil)
      (pss_cons (ps_if (pt_cmpR op_eq (pe_ix ix_list (pv 2) pe_int (fun _ _ => rfl)) pe_int (nomark _))
      (pss_one (ps_ret (pe_op op_add_str (pe_op op_add_str (pe_slice sl_str (pv 1) po_none (po_some (pv 4))) (pe_slice sl_str (pv 1) (po_some (pv 4)) (po_some (pe_op op_add (pv 4) pe_int)))) (pe_slice sl_str (pv 1) (po_some (pv 4)) po_none))))
      pss_nil)
      (pss_cons (ps_if (pt_cmpR op_eq (pe_ix ix_list (pv 2) pe_int (fun _ _ => rfl)) pe_int (nomark _))
      (pss_cons (ps_set (i := 6) scBent.nd rfl (.inl rfl) (pe_op op_add_str (pe_slice sl_str (pv 1) (po_some (pe_op op_add (pv 4) pe_int)) (po_some (pe_op op_add (pv 4) pe_int))) (pe_slice sl_str (pv 1) (po_some (pv 4)) (po_some (pe_op op_add (pv 4) pe_int)))))
       (pss_one (ps_ret (pe_op op_add_str (pe_op op_add_str (pe_slice sl_str (pv 1) po_none (po_some (pv 4))) (pv 6)) (pe_slice sl_str (pv 1) (po_some (pe_op op_add (pv 4) pe_int)) po_none)))))
      pss_nil)
      (pss_one (ps_ret (pe_call G_odd hr1 (by rfl) g_odd F_odd.kp b_odd .nil pass0 (pa_cons (pe_ix ix_list (pv 2) pe_int (fun _ _ => rfl)) pa_nil)))))))))))))), ?_⟩
    refine ⟨.int c, rfl, by show 4 ≤ sizeLine; decide, fun l0 n0 => ⟨c, l0, [6, 90, 91, 3], rfl, SqL.of upd_same, by decide, by decide, fun H1 R rs s1 nR hR hrow => ?_⟩⟩
    have s01 := (same_new n0 (o := .lst (([6, 90, 91, 3] : List Int).map V.int))).trans s1
    obtain ⟨g0, a0, b0, d0⟩ := row_at hrow (i := 0) (l := 6) rfl
    obtain ⟨g1, a1, b1, d1⟩ := row_at hrow (i := 1) (l := 90) rfl
    obtain ⟨g2, a2, b2, d2⟩ := row_at hrow (i := 2) (l := 91) rfl
    obtain ⟨g3, a3, b3, d3⟩ := row_at hrow (i := 3) (l := 3) rfl
    have hsz : z.length ≤ sizeLine := by rw [sizeLine_eq]; omega
    have hf : 0 ≤ g1.fmod (((z.length : Nat) : Int) + 1) ∧ g1.fmod (((z.length : Nat) : Int) + 1) < ((z.length : Nat) : Int) + 1 := ⟨Int.fmod_nonneg_of_pos _ (by omega), Int.fmod_lt_of_pos _ (by omega)⟩
    refine ⟨.ref R, rfl, R, _, 1, .int g1, rfl, rfl, SqL.of hR, atI_nat (j := 1) (i_at a1), .inl ⟨g1, rfl, .str z, rfl, .str z, z.length, rfl, ⟨hsz, rfl⟩, _, 1, rfl, rfl, g1, ((z.length : Nat) : Int) + 1, rfl, rfl, by omega, ?_⟩⟩
    dsimp only
    generalize g1.fmod (((z.length : Nat) : Int) + 1) = at0 at hf ⊢
    obtain ⟨t, rfl⟩ : ∃ n : Nat, at0 = (n : Int) := ⟨at0.toNat, by omega⟩
    have ht : t ≤ z.length := by omega
    obtain ⟨ch, c1, _⟩ := pick (z := signs) b2 (by rw [signs_len]; exact d2)
    refine ⟨.str signs, rfl, .ref R, rfl, R, _, 2, .int g2, rfl, rfl, SqL.of hR, atI_nat (j := 2) (i_at a2), signs, g2, ch, rfl, rfl, by rw [signs_len]; decide, c1, ?_⟩
    refine ⟨fun σ H2 => ∃ ch : Nat, σ = [some (.int c), some (.str z), some (.ref R), some (.str signs), some (.int (t : Int)), some (.str ⟨#[ch]⟩), none] ∧ H2 = H1, ?_, ?_⟩
    · refine ⟨.ref R, rfl, R, _, 3, .int g3, rfl, rfl, SqL.of hR, atI_nat (j := 3) (i_at a3), g3, 0, rfl, rfl, _, rfl, ite2 (fun _ => ?_) (fun _ => ⟨ch, rfl, rfl⟩)⟩
      have hf7 : 0 ≤ g2.fmod 7 ∧ g2.fmod 7 < 7 := ⟨Int.fmod_nonneg_of_pos _ (by decide), Int.fmod_lt_of_pos _ (by decide)⟩
      obtain ⟨c7, e7, _⟩ := pick (z := few) hf7.1 (by rw [few_len]; exact hf7.2)
      exact ⟨.ref R, rfl, R, _, 2, .int g2, rfl, rfl, SqL.of hR, atI_nat (j := 2) (i_at a2), .inl ⟨g2, rfl, _, 7, rfl, rfl, (show (7 : Int) ≠ 0 by decide), few, _, c7, rfl, rfl, by rw [few_len]; decide, e7, c7, rfl, rfl⟩⟩
    rintro σ H2 ⟨ch, rfl, rfl⟩
    have k1 := cut_l1 z ht
    have k2 := cut_l2 z t
    have e1 : ((t : Int) + 1) = ((t + 1 : Nat) : Int) := by omega
    have e2 : ((t : Int) + 2) = ((t + 2 : Nat) : Int) := by omega
    have k3 : (cutS z (some ((t : Int) + 1)) none).length = z.length - (t + 1) := by rw [e1]; exact cut_l2 z (t + 1)
    have k4 : (cutS z (some ((t : Int) + 2)) none).length = z.length - (t + 2) := by rw [e2]; exact cut_l2 z (t + 2)
    have k5 : (cutS z (some (t : Int)) (some ((t : Int) + 1))).length ≤ 1 := by rw [e1]; exact Nat.le_trans (cut_l3 z t (t + 1)) (by omega)
    have k6 : (cutS z (some ((t : Int) + 1)) (some ((t : Int) + 2))).length ≤ 1 := by rw [e1, e2]; exact Nat.le_trans (cut_l3 z (t + 1) (t + 2)) (by omega)
    have kc : (⟨#[ch]⟩ : Str).length = 1 := rfl
    have row0 : ∀ {Q : VK}, Q (.int g0) H2 → True := fun _ => trivial
    refine ⟨.ref R, rfl, R, _, 0, .int g0, rfl, rfl, SqL.of hR, atI_nat (j := 0) (i_at a0), rfl, _, rfl, ite2 (fun _ => ?_) (fun _ => ?_)⟩
    · exact ⟨.str z, rfl, .int (t : Int), rfl, (t : Int), rfl, z, rfl, hsz, .str z, rfl, .int (t : Int), rfl, (t : Int), 1, rfl, rfl, _, rfl, z, rfl, hsz, _, _, rfl, rfl, by rw [sizeLine_eq]; omega, q _ _ s01 (by rw [len_add]; omega)⟩
    refine ⟨.ref R, rfl, R, _, 0, .int g0, rfl, rfl, SqL.of hR, atI_nat (j := 0) (i_at a0), rfl, _, rfl, ite2 (fun _ => ?_) (fun _ => ?_)⟩
    · exact ⟨.str z, rfl, .int (t : Int), rfl, (t : Int), rfl, z, rfl, hsz, .str ⟨#[ch]⟩, rfl, _, _, rfl, rfl, by rw [sizeLine_eq]; omega, .str z, rfl, .int (t : Int), rfl, (t : Int), rfl, z, rfl, hsz, _, _, rfl, rfl, by rw [len_add, sizeLine_eq]; omega, q _ _ s01 (by rw [len_add, len_add]; omega)⟩
    refine ⟨.ref R, rfl, R, _, 0, .int g0, rfl, rfl, SqL.of hR, atI_nat (j := 0) (i_at a0), rfl, _, rfl, ite2 (fun _ => ?_) (fun _ => ?_)⟩
    · exact ⟨.str z, rfl, .int (t : Int), rfl, (t : Int), rfl, z, rfl, hsz, .str ⟨#[ch]⟩, rfl, _, _, rfl, rfl, by rw [sizeLine_eq]; omega, .str z, rfl, .int (t : Int), rfl, (t : Int), 1, rfl, rfl, _, rfl, z, rfl, hsz, _, _, rfl, rfl, by rw [len_add, sizeLine_eq]; omega, q _ _ s01 (by rw [len_add, len_add]; omega)⟩
    refine ⟨.ref R, rfl, R, _, 0, .int g0, rfl, rfl, SqL.of hR, atI_nat (j := 0) (i_at a0), rfl, _, rfl, ite2 (fun _ => ?_) (fun _ => ?_)⟩
    · exact ⟨.str z, rfl, .int (t : Int), rfl, (t : Int), rfl, z, rfl, hsz, .str z, rfl, .int (t : Int), rfl, (t : Int), rfl, .int (t : Int), rfl, (t : Int), 1, rfl, rfl, _, rfl, z, rfl, hsz, _, _, rfl, rfl, by rw [sizeLine_eq]; omega, .str z, rfl, .int (t : Int), rfl, (t : Int), rfl, z, rfl, hsz, _, _, rfl, rfl, by rw [len_add, sizeLine_eq]; omega, q _ _ s01 (by rw [len_add, len_add]; omega)⟩
    refine ⟨.ref R, rfl, R, _, 0, .int g0, rfl, rfl, SqL.of hR, atI_nat (j := 0) (i_at a0), rfl, _, rfl, ite2 (fun _ => ?_) (fun _ => ?_)⟩
    · refine ⟨.str z, rfl, .int (t : Int), rfl, (t : Int), 1, rfl, rfl, _, rfl, .int (t : Int), rfl, (t : Int), 2, rfl, rfl, _, rfl, z, rfl, hsz, .str z, rfl, .int (t : Int), rfl, (t : Int), rfl, .int (t : Int), rfl, (t : Int), 1, rfl, rfl, _, rfl, z, rfl, hsz, _, _, rfl, rfl, by rw [sizeLine_eq]; omega, ?_⟩
      exact ⟨.str z, rfl, .int (t : Int), rfl, (t : Int), rfl, z, rfl, hsz, .str _, rfl, _, _, rfl, rfl, by rw [len_add, sizeLine_eq]; omega, .str z, rfl, .int (t : Int), rfl, (t : Int), 2, rfl, rfl, _, rfl, z, rfl, hsz, _, _, rfl, rfl, by rw [len_add, len_add, sizeLine_eq]; omega, q _ _ s01 (by rw [len_add, len_add, len_add]; omega)⟩
    · exact ⟨.ref R, rfl, R, _, 2, .int g2, rfl, rfl, SqL.of hR, atI_nat (j := 2) (i_at a2), g2, rfl, fun H3 y s3 hy => q _ _ (s01.trans s3) (by omega)⟩
end
end K10

set_option maxRecDepth 100000
set_option maxHeartbeats 4000000
namespace K10
open PySem PySem.Spec PyProof.Rows L2
theorem made_same {H H' : Hp} {x dx CP : Addr} (nx : H x = none) (ndx : H dx = none) (hk : ∀ b o, b ≠ x → (upd (upd H dx (.own x)) x (.ins CP dx [])) b = some o → H' b = some o) : Same H H' := fun b o hb =>
  hk b o (fun e => by subst e; rw [nx] at hb; cases hb) (by rw [upd_ne (fun e => by subst e; rw [nx] at hb; cases hb), upd_ne (fun e => by subst e; rw [ndx] at hb; cases hb)]; exact hb)
/-- what the errors' classes must say -/
structure Errs (K : PySem.W.Frag) (mg : Str → Option Value) (C CL CV CN : Addr) : Prop where
  gL : mg "LaidError" = some (.ref CL)
  gV : mg "BadValue" = some (.ref CV)
  gN : mg "BadLine" = some (.ref CN)
  ex : ExcC K C
  exm : PySem.W.exmOne K (.ref C) (.ref C) = some true
  k1 : PySem.W.kitOne K (.ref C) (.ref CL) = some true
  k2 : PySem.W.kitOne K (.ref C) (.type "ValueError") = some true
  k3 : PySem.W.kitOne K (.ref C) (.ref CV) = some false
  k4 : PySem.W.kitOne K (.ref C) (.ref CN) = some false
/-- an own method that the interpreter looks up -/
structure Own (K : PySem.W.Frag) (C : Addr) (m : Str) (f : Addr) : Prop where
  at_ : PySem.W.findIn K (.ref C) m = some (some (.ref f))
  fn : PySem.W.isFn K (.ref f) = true
structure OwnT (K : PySem.W.Frag) (C : Addr) (m : Str) (f : Addr) : Prop where
  at_ : PySem.W.findIn K (.ref C) m = some (some (.ref f))
  ty : PySem.W.typeIn K (.ref f) = some (.type "function")
section
variable {P : Program} {w : World} {K : PySem.W.Frag} {mg : Str → Option Value} {base : Heap} {t1 t2 t3 t4 t5 t6 : Tok}
abbrev PI (P : Program) (w : World) (K : PySem.W.Frag) (mg : Str → Option Value) (base : Heap) (f CP C : Addr) (fd : FuncData) : Prop := FnOk P w K mg base (L2.CX P w) 6 f fd ["self", "text"] (spPInit CP C)
/-! ### _law_refused -/
def spRefused : Sp := fun vs H Q _ => ∃ z : Str, vs = [.str z] ∧ z.length ≤ 900 ∧ rdT (wds z) = none ∧ ∀ H', Same H H' → Q (.bl true) H'
theorem scRefused : FnScope ["_law_text", "e"] ["_law_text"] (defScope sRefused) := ⟨rfl, rfl, rfl, by decide +kernel, rfl, by decide +kernel, by decide +kernel⟩
theorem ok_refused {f CP C CL CV CN fI f_pinit : Addr} {fd fdI fd_pinit : FuncData} (B : Blt mg) (T : Txt K mg CP) (M : Mk K CP f_pinit) (N : BadP K mg C fI fdI) (R : Errs K mg C CL CV CN) (F : Fun K "_law_refused" "_law_refused" sRefused f fd)
    (G_pinit : PI P w K mg base f_pinit CP C fd_pinit) (b_pinit : Binds K fd_pinit ["self", "text"] []) :
    FnOk P w K mg base CX0 8 f fd ["_law_text"] spRefused := by
  have xf : XfC K C := ⟨R.ex.hg, R.ex.hk, R.ex.hs, R.ex.hd⟩
  refine F.ok scRefused (fun vs H Q E h => ?_) (fun cdv A0 outer s H vs Q E hr h => ?_)
  · obtain ⟨z, rfl, _⟩ := h; rfl
  · obtain ⟨z, rfl, hzl, hno, q⟩ := h
    refine ⟨_, pss_cons (ps_try_as (i := 1) (Wout := fun _ _ _ _ => False) rfl rfl scRefused.nd rfl rfl ⟨rfl, by decide, .inl N.gC⟩ takes0
        (fun W pn xe tk _ => pss_one (ps_expr (R6.pe_makeS M G_pinit hr (by rfl) T.mgC b_pinit .nil (fun σ => passAt tk σ) (pa_cons (pv 0) pa_nil))))
        (fun a oe cls d pn hz hf => pss_cons (ps_if (PW.pt (pw_or (pt_val (pe_callB (call_isD R.ex hz hf) (by rfl) B.isi (by decide +kernel) (pa_cons (pv 1) (pa_cons (pe_glob (v := .ref CV) (by rfl) R.gV rfl) pa_nil))))
            (pw_or1 (pt_val (pe_callB (call_isD R.ex hz hf) (by rfl) B.isi (by decide +kernel) (pa_cons (pv 1) (pa_cons (pe_glob (v := .ref CN) (by rfl) R.gN rfl) pa_nil)))))))
          (pss_one (ps_ret pe_bl)) pss_nil)
          (pss_one (ps_ret (pe_and (pe_callB (call_isD R.ex hz hf) (by rfl) B.isi (by decide +kernel) (pa_cons (pv 1) (pa_cons (pe_glob (v := .ref CL) (by rfl) R.gL rfl) pa_nil))) (pe_and (pe_callB (call_isD R.ex hz hf) (by rfl) B.isi (by decide +kernel) (pa_cons (pv 1) (pa_cons (pe_bltn (v := .ty "ValueError") (by rfl) B.ve (by decide +kernel) rfl) pa_nil)))
            (pe_and (pe_callB (show CallR _ (.builtin "isinstance") (rIsi K) from call_isi) (by rfl) B.isi (by decide +kernel) (pa_cons (pe_xf xf N.fp hz hf (pv 1)) (pa_cons (pe_bltn (v := .ty "str") (by rfl) B.str (by decide +kernel) rfl) pa_nil))) (pe_one (pe_cmpR op_eq (pe_xf xf N.fp hz hf (pv 1)) (pv 0) (nomark _))))))))))
      (pss_one (ps_ret pe_bl)), ?_⟩
    refine ⟨.str z, rfl, fun xp dx nx ndx hne => ?_⟩
    have sM : Same H (upd (upd H dx (.own xp)) xp (.ins CP dx [])) := fun b o hb => by
      rw [upd_ne (fun e => by subst e; rw [nx] at hb; cases hb), upd_ne (fun e => by subst e; rw [ndx] at hb; cases hb)]; exact hb
    refine ⟨xp, dx, z, rfl, upd_same, hzl, fun _ H1 d s1 hd => ⟨true, R.exm, fun _ a ha => ?_, fun q => nomatch q⟩, fun ts hts => absurd (hno.symm.trans hts) (by simp)⟩
    have isr : ∀ {c : V} {cv : Value}, (c = .ref CL ∧ cv = .ref CL) ∨ (c = .ty "ValueError" ∧ cv = .type "ValueError") ∨ (c = .ref CV ∧ cv = .ref CV) ∨ (c = .ref CN ∧ cv = .ref CN) → ∀ u, RelV c u → u = cv := by
      rintro c cv (⟨rfl, rfl⟩ | ⟨rfl, rfl⟩ | ⟨rfl, rfl⟩ | ⟨rfl, rfl⟩) u hu <;> exact hu
    have sd := same_new hd (o := .xd [("text", .str z)])
    refine ⟨.ref a, rfl, .ref CV, .ref CV, false, d, _, rfl, rfl, isr (.inr (.inr (.inl ⟨rfl, rfl⟩))), R.k3, rfl, upd_same, _, rfl, iteF ?_⟩
    refine ⟨.ref a, rfl, .ref CN, .ref CN, false, d, _, rfl, rfl, isr (.inr (.inr (.inr ⟨rfl, rfl⟩))), R.k4, rfl, upd_same, _, rfl, iteF ?_⟩
    refine ⟨.ref a, rfl, .ref CL, .ref CL, true, d, _, rfl, rfl, isr (.inl ⟨rfl, rfl⟩), R.k1, rfl, upd_same, _, rfl, iteT ?_⟩
    refine ⟨.ref a, rfl, .ty "ValueError", .type "ValueError", true, d, _, rfl, rfl, isr (.inr (.inl ⟨rfl, rfl⟩)), R.k2, rfl, upd_same, _, rfl, iteT ?_⟩
    refine ⟨.ref a, rfl, rfl, rfl, d, _, .str z, rfl, upd_same, rfl, .str z, .ty "str", .type "str", .type "str", true, rfl, .ty "str", .base (.str z), kit_ty (by decide +kernel), _, rfl, iteT ?_⟩
    refine ⟨.ref a, rfl, rfl, rfl, d, _, .str z, rfl, upd_same, rfl, .str z, rfl, rfl, ?_⟩
    rw [decide_eq_true rfl]
    exact q _ (sM.trans (s1.trans sd))
/-! ### _law_let -/
def spLLet : Sp := fun vs H Q _ => ∃ (z y : Str) (la : Addr) (us : List V) (ts to : List Tst), vs = [.str z, .ref la, .str y] ∧ z.length ≤ 900 ∧ y.length ≤ 900 ∧ H la = some (.lst us) ∧ PairsAt H us ts ∧ ts.length ≤ 4 ∧ rdT (wds z) = some ts ∧ rdT (wds y) = some to ∧ ∀ H', Same H H' → Q (.bl true) H'
abbrev nLe : List Str := ["_law_text", "_law_tests", "_law_other", "_law_pattern", "_law_counts", "_law_due", "_law_k", "_law_told", "_law_same", "_law_one"]
theorem scLet : FnScope nLe ["_law_text", "_law_tests", "_law_other"] (defScope sLet) := ⟨rfl, rfl, rfl, by decide +kernel, rfl, by decide +kernel, by decide +kernel⟩
set_option maxHeartbeats 16000000 in
theorem ok_let {f CP C f_pinit f_plen f_asked f_named f_pstr f_peq f_number pa_ pn_ : Addr} {fd fd_pinit fd_plen fd_asked fd_named fd_pstr fd_peq fd_number : FuncData} (B : Blt mg) (Z : Cst mg t1 t2 t3 t4 t5 t6) (T : Txt K mg CP) (S : Isi K CP) (M : Mk K CP f_pinit) (F : Fun K "_law_let" "_law_let" sLet f fd)
    (hk : PySem.W.kitOne K (.type "str") (.ref CP) = some false) (hni : mg "NotImplemented" = none)
    (G_pinit : PI P w K mg base f_pinit CP C fd_pinit) (b_pinit : Binds K fd_pinit ["self", "text"] [])
    (F_plen : Fun K "__len__" "Pattern.__len__" sPLen f_plen fd_plen) (b_plen : Binds K fd_plen ["self"] []) (L : OwnT K CP "__len__" f_plen)
    (F_asked : Fun K "asked" "Pattern.asked" sAsked f_asked fd_asked) (b_asked : Binds K fd_asked ["self"] []) (pa : PropOf K CP "asked" pa_ f_asked)
    (F_named : Fun K "named" "Pattern.named" sNamed f_named fd_named) (b_named : Binds K fd_named ["self"] []) (pn : PropOf K CP "named" pn_ f_named)
    (F_pstr : Fun K "__str__" "Pattern.__str__" sPStr f_pstr fd_pstr) (b_pstr : Binds K fd_pstr ["self"] []) (U : Own K CP "__str__" f_pstr)
    (F_peq : Fun K "__eq__" "Pattern.__eq__" sPEq f_peq fd_peq) (b_peq : Binds K fd_peq ["self", "other"] []) (EQ : Own K CP "__eq__" f_peq)
    (F_number : Fun K "_law_number" "_law_number" sNumber f_number fd_number) (b_number : Binds K fd_number ["_law_value"] []) (g_number : mg "_law_number" = some (.ref f_number)) :
    FnOk P w K mg base CX0 8 f fd ["_law_text", "_law_tests", "_law_other"] spLLet := by
  have G_plen : FnOk P w K mg base CX0 1 f_plen fd_plen ["self"] (spPLen CP) := ok_plen B T F_plen
  have G_asked : FnOk P w K mg base CX0 1 f_asked fd_asked ["self"] (spCount CP fun ts => (ts.filter asks).length) := ok_asked B T F_asked
  have G_named : FnOk P w K mg base CX0 1 f_named fd_named ["self"] (spCount CP fun ts => (ts.filter names).length) := ok_named B Z T F_named
  have G_pstr : FnOk P w K mg base CX0 1 f_pstr fd_pstr ["self"] (spPStr CP) := ok_pstr B T F_pstr
  have G_pstrR := G_pstr.raw b_pstr .nil
  have G_peq : FnOk P w K mg base CX0 1 f_peq fd_peq ["self", "other"] (spPEq CP) := ok_peq B T S F_peq
  have NI : R7.NiOk P w K mg base 1 f_peq niR := ni_peq B T hk hni F_peq b_peq
  have G_number : FnOk P w K mg base CX0 1 f_number fd_number ["_law_value"] spNumber := ok_number B F_number
  refine F.ok scLet (fun vs H Q E h => ?_) (fun cdv A0 outer s H vs Q E hr h => ?_)
  · obtain ⟨z, y, la, us, ts, to, rfl, _⟩ := h; rfl
  · obtain ⟨z, y, la, us, ts, to, rfl, hz, hy, hla, hT, h4, hts, hto, q⟩ := h
    have hr7 : Room 7 _ := hr
    have hr1 : Room 1 _ := hr.mono (by decide)
    have hr2 : Room 2 _ := hr.mono (by decide)
    have hr3 : Room 3 _ := hr.mono (by decide)
    refine ⟨_, (pss_cons (ps_set (i := 3) scLet.nd rfl (.inl rfl) (pe_make M G_pinit hr7 (by rfl) T.mgC b_pinit .nil passN (pa_cons (pv 0) pa_nil)))
      (pss_cons (ps_set (i := 4) scLet.nd rfl (.inl rfl) (pe_lst (pa_cons (pe_callB (RO.call_lenOwn L.at_ L.ty G_plen b_plen hr2) (by rfl) B.len PySem.boot_len (pa_cons (pv 3) pa_nil)) (pa_cons (pe_prop (pv 3) T.cl pa G_asked hr2 b_asked .nil pass0 rfl) (pa_cons (pe_prop (pv 3) T.cl pn G_named hr2 b_named .nil pass0 rfl) pa_nil)))))
      (pss_cons (ps_set (i := 5) scLet.nd rfl (.inl rfl) (pe_lst (pa_cons (pe_callB call_len (by rfl) B.len PySem.boot_len (pa_cons (pv 1) pa_nil)) (pa_cons (pe_callB call_len (by rfl) B.len PySem.boot_len (pa_cons (pe_lc (own := [("_law_one", 9)]) (g := gName 9) rfl scLet.nd (pi_list (pv 1)) (blkOk_by (N := nLe) (sc := defScope sLet) (by decide +kernel)) (fun _ _ _ _ _ => (pg_name (i := 9) scLet.nd rfl (.inl rfl))) (fun _ _ _ _ _ => pts_one (pt_val (pe_ix (show IxR _ (rIxT K) from ix_tup) (pv 9) pe_int (fun _ _ => rfl)))) (fun _ _ _ _ _ => (pv 9))) pa_nil)) (pa_cons (pe_callB call_len (by rfl) B.len PySem.boot_len (pa_cons (pe_lc (own := [("_law_one", 9)]) (g := gName 9) rfl scLet.nd (pi_list (pv 1)) (blkOk_by (N := nLe) (sc := defScope sLet) (by decide +kernel)) (fun _ _ _ _ _ => (pg_name (i := 9) scLet.nd rfl (.inl rfl))) (fun _ _ _ _ _ => pts_one (pt_val (pe_ix (show IxR _ (rIxT K) from ix_tup) (pv 9) pe_int (fun _ _ => rfl)))) (fun _ _ _ _ _ => (pv 9))) pa_nil)) pa_nil)))))
      (pss_cons (ps_for (PassesOwn.never) rfl (pi_range1 (by rfl) B.range (pa_cons pe_int pa_nil)) (pg_name (i := 6) scLet.nd rfl (.inl rfl))
      (pss_one (ps_if (PW.pt (pw_or (pt_not (pt_val (pe_call G_number hr1 (by rfl) g_number F_number.kp b_number .nil pass0 (pa_cons (pe_ix ix_list (pv 4) (pv 6) (fun _ _ => rfl)) pa_nil)))) (pw_or1 (pt_cmpR op_ne (pe_ix ix_list (pv 4) (pv 6) (fun _ _ => rfl)) (pe_ix ix_list (pv 5) (pv 6) (fun _ _ => rfl)) (nomark _)))))
       (pss_one (ps_ret pe_bl))
       pss_nil)))
      (pss_cons (ps_set (i := 7) scLet.nd rfl (.inl rfl) (pe_callTy (R7.call_strOwn U.at_ U.fn G_pstrR hr3 pass0) (by rfl) B.str (by decide +kernel) (pa_cons (pv 3) pa_nil)))
      (pss_cons (ps_if (PW.pt (pw_or (pt_not (pt_val (pe_callB call_isi (by rfl) B.isi (by decide +kernel) (pa_cons (pv 7) (pa_cons (pe_bltn (v := .ty "str") (by rfl) B.str (by decide +kernel) rfl) pa_nil))))) (pw_or1 (pt_cmpR op_ne (pv 7) (pv 0) (nomark _)))))
      (pss_one (ps_ret pe_bl))
      pss_nil)
      (pss_cons (ps_if (PW.pt (pw_or (pt_cmpR op_isnot_bl (pe_cmpR (R7.op_eqOwn G_peq EQ.at_ EQ.fn b_peq hr1 pass0) (pv 3) (pe_make M G_pinit hr7 (by rfl) T.mgC b_pinit .nil passN (pa_cons (pv 0) pa_nil)) (nomark _)) pe_bl (nomark _)) (pw_or1 (pt_cmpR op_isnot_bl (pe_cmpR (R7.op_eqNI EQ.at_ EQ.fn NI hr1) (pv 3) (pv 0) (nomark _)) pe_bl (nomark _)))))
      (pss_one (ps_ret pe_bl))
      pss_nil)
      (pss_cons (ps_for (PassesOwn.never) rfl (pi_list (pe_lst (pa_cons (pe_cmpR (R7.op_eqOwn G_peq EQ.at_ EQ.fn b_peq hr1 pass0) (pv 3) (pe_make M G_pinit hr7 (by rfl) T.mgC b_pinit .nil passN (pa_cons (pv 2) pa_nil)) (nomark _)) (pa_cons (pe_cmpR (R7.op_eqOwn G_peq EQ.at_ EQ.fn b_peq hr1 pass0) (pe_make M G_pinit hr7 (by rfl) T.mgC b_pinit .nil passN (pa_cons (pv 2) pa_nil)) (pv 3) (nomark _)) pa_nil)))) (pg_name (i := 8) scLet.nd rfl (.inl rfl))
      (pss_one (ps_if (PW.pt (pw_or (pt_not (pt_val (pe_callB call_isi (by rfl) B.isi (by decide +kernel) (pa_cons (pv 8) (pa_cons (pe_bltn (v := .ty "bool") (by rfl) B.bool (by decide +kernel) rfl) pa_nil))))) (pw_or1 (pt_cmpR op_ne (pv 8) (pe_cmpR op_eq (pv 0) (pv 2) (nomark _)) (nomark _)))))
       (pss_one (ps_ret pe_bl))
       pss_nil)))
      (pss_one (ps_ret pe_bl)))))))))), ?_⟩
    have oT : ∀ {ts' : List Tst}, rdT (wds z) = some ts' → ts' = ts := fun h => Option.some.inj (h.symm.trans hts)
    have oY : ∀ {ts' : List Tst}, rdT (wds y) = some ts' → ts' = to := fun h => Option.some.inj (h.symm.trans hto)
    refine ⟨.str z, rfl, fun p dx0 np ndx hne => ⟨p, dx0, z, rfl, upd_same, hz, fun hno => absurd (hno.symm.trans hts) (by simp), fun ts' hts' H1 hk1 hP => ⟨rfl, ?_⟩⟩⟩
    obtain rfl := oT hts'
    have s1 : Same H H1 := made_same np ndx hk1
    obtain ⟨dx, fs, fa, fus, hp, ff1, ff2, hfa, hfT⟩ := id hP
    have hla1 := s1 _ _ hla
    have hT1 := hT.tups (Same.tups s1)
    clear hk1
    refine ⟨.ref p, rfl, p, dx, fs, ts'.length, rfl, hp, by rw [sizeLine_eq]; omega, ⟨p, ts', z, rfl, hP, rfl, rfl⟩, ?_⟩
    refine ⟨.ref p, rfl, p, dx, fs, rfl, hp, p, ts', z, rfl, hP, h4, fun H2 s2 => ?_⟩
    refine ⟨.ref p, rfl, p, dx, fs, rfl, s2 _ _ hp, p, ts', z, rfl, hP.same s2, h4, fun H3 s3 => ⟨by show 3 ≤ sizeLine; decide, fun ca nca => ?_⟩⟩
    generalize hv : ([((ts'.length : Nat) : Int), (((ts'.filter asks).length : Nat) : Int), (((ts'.filter names).length : Nat) : Int)] : List Int) = vals
    have hcv : ([.int ((ts'.length : Nat) : Int), .int (((ts'.filter asks).length : Nat) : Int), .int (((ts'.filter names).length : Nat) : Int)] : List V) = vals.map V.int := by rw [← hv]; rfl
    have s34 := same_new nca (o := .lst [.int ((ts'.length : Nat) : Int), .int (((ts'.filter asks).length : Nat) : Int), .int (((ts'.filter names).length : Nat) : Int)])
    have hca : (upd H3 ca (.lst [.int ((ts'.length : Nat) : Int), .int (((ts'.filter asks).length : Nat) : Int), .int (((ts'.filter names).length : Nat) : Int)])) ca = some (.lst (vals.map V.int)) := by rw [upd_same, hcv]
    have s14 := s2.trans (s3.trans s34)
    have hvl : vals.length = 3 := by rw [← hv]; rfl
    have le1 : (ts'.filter asks).length ≤ 4 := Nat.le_trans (List.length_filter_le _ _) h4
    have le2 : (ts'.filter names).length ≤ 4 := Nat.le_trans (List.length_filter_le _ _) h4
    generalize upd H3 ca (.lst [.int ((ts'.length : Nat) : Int), .int (((ts'.filter asks).length : Nat) : Int), .int (((ts'.filter names).length : Nat) : Int)]) = H4 at s34 hca s14 ⊢
    have hla4 := s14 _ _ hla1
    have hT4 := hT1.tups (Same.tups s14)
    -- what is due
    refine ⟨.ref la, rfl, .ref la, us.length, rfl, .inl ⟨_, SqL.of hla4, rfl⟩, .ref la, rfl, la, rfl, ⟨_, SqL.of hla4⟩, fun D1 nD1 => ?_⟩
    refine lc_list (K := K) (a := la) (xs := us) (fun n H' => ∃ ys : List V, H' D1 = some (.lst ys) ∧ ys.length = ((ts'.take n).filter asks).length ∧ Same H4 H') ⟨[], upd_same, rfl, same_new nD1⟩ (fun n H' _ ⟨_, _, _, sm⟩ => SqL.of (sm _ _ hla4)) ?_ ?_
    · rintro n v H' hn ⟨ys, hys, hyl, sm⟩
      have hlt : n < ts'.length := by have := (List.getElem?_eq_some_iff.mp hn).1; rw [hT4.1] at this; exact this
      have hx : ts'[n]? = some (ts'[n]'hlt) := List.getElem?_eq_getElem _
      generalize ts'[n]'hlt = x at hx
      obtain ⟨t, rfl, ht⟩ := hT4.2 n v x hn hx
      have hc := countT asks ts' hx
      have hle : ((ts'.take n).filter asks).length ≤ 4 := Nat.le_trans (List.length_filter_le _ _) (by rw [List.length_take]; omega)
      refine ⟨rfl, .ref t, rfl, t, _, 1, .bl (asks x), rfl, rfl, SqT.of (sm _ _ ht), atI_nat (j := 1) rfl, _, rfl, ?_⟩
      cases hb : asks x with
      | false => exact iteF ⟨ys, hys, by rw [hc, hyl, hb]; rfl, sm⟩
      | true => exact iteT ⟨.ref t, rfl, ys, hys, small1000 (by omega), ys ++ [.ref t], upd_same, by rw [hc, List.length_append, hyl, hb]; rfl, same_at sm nD1⟩
    rintro H5 ⟨ys, hys, hyl, s45⟩
    rw [hT4.1, List.take_length] at hyl
    have hla5 := s45 _ _ hla4
    have hT5 := hT4.tups (Same.tups s45)
    refine ⟨.ref D1, ys.length, rfl, .inl ⟨_, SqL.of hys, rfl⟩, .ref la, rfl, la, rfl, ⟨_, SqL.of hla5⟩, fun D2 nD2 => ?_⟩
    refine lc_list (K := K) (a := la) (xs := us) (fun n H' => ∃ ys : List V, H' D2 = some (.lst ys) ∧ ys.length = ((ts'.take n).filter names).length ∧ Same H5 H') ⟨[], upd_same, rfl, same_new nD2⟩ (fun n H' _ ⟨_, _, _, sm⟩ => SqL.of (sm _ _ hla5)) ?_ ?_
    · rintro n v H' hn ⟨ys, hys, hyl, sm⟩
      have hlt : n < ts'.length := by have := (List.getElem?_eq_some_iff.mp hn).1; rw [hT5.1] at this; exact this
      have hx : ts'[n]? = some (ts'[n]'hlt) := List.getElem?_eq_getElem _
      generalize ts'[n]'hlt = x at hx
      obtain ⟨t, rfl, ht⟩ := hT5.2 n v x hn hx
      have hc := countT names ts' hx
      have hle : ((ts'.take n).filter names).length ≤ 4 := Nat.le_trans (List.length_filter_le _ _) (by rw [List.length_take]; omega)
      refine ⟨rfl, .ref t, rfl, t, _, 0, .bl (names x), rfl, rfl, SqT.of (sm _ _ ht), atI_nat (j := 0) rfl, _, rfl, ?_⟩
      cases hb : names x with
      | false => exact iteF ⟨ys, hys, by rw [hc, hyl, hb]; rfl, sm⟩
      | true => exact iteT ⟨.ref t, rfl, ys, hys, small1000 (by omega), ys ++ [.ref t], upd_same, by rw [hc, List.length_append, hyl, hb]; rfl, same_at sm nD2⟩
    rintro H6 ⟨ws, hws, hwl, s56⟩
    rw [hT5.1, List.take_length] at hwl
    refine ⟨.ref D2, ws.length, rfl, .inl ⟨_, SqL.of hws, rfl⟩, by show 3 ≤ sizeLine; decide, fun da nda => ?_⟩
    have hdv : ([.int ((us.length : Nat) : Int), .int ((ys.length : Nat) : Int), .int ((ws.length : Nat) : Int)] : List V) = vals.map V.int := by rw [← hv, hT.1, hyl, hwl]; rfl
    have s67 := same_new nda (o := .lst [.int ((us.length : Nat) : Int), .int ((ys.length : Nat) : Int), .int ((ws.length : Nat) : Int)])
    have hda : (upd H6 da (.lst [.int ((us.length : Nat) : Int), .int ((ys.length : Nat) : Int), .int ((ws.length : Nat) : Int)])) da = some (.lst (vals.map V.int)) := by rw [upd_same, hdv]
    have s47 := s45.trans (s56.trans s67)
    generalize upd H6 da (.lst [.int ((us.length : Nat) : Int), .int ((ys.length : Nat) : Int), .int ((ws.length : Nat) : Int)]) = H7 at s67 hda s47 ⊢
    have hca7 := s47 _ _ hca
    have s17 := s14.trans s47
    have hP7 := hP.same s17
    have hp7 := s17 _ _ hp
    have s07 := s1.trans s17
    clear hca hys hws hT5 hT4 hla5 hla4 s45 s56 s67 s34 s2 s3 nD1 nD2 nca nda hcv hdv
    refine ⟨3, rfl, by decide, by decide, ?_⟩
    refine for_range (lo := 0) (n := 3) (fun i σ H' => ∃ y6 : Option V, σ = [some (.str z), some (.ref la), some (.str y), some (.ref p), some (.ref ca), some (.ref da), y6, none, none, none] ∧ Same H7 H') ⟨none, rfl, Same.refl _⟩ ?_ ?_
    · rintro i σ H' hi ⟨y6, rfl, sm⟩
      have e0 : (0 : Int) + (i : Int) = (i : Int) := by omega
      rw [e0]
      have hx : vals[i]? = some (vals[i]'(by omega)) := List.getElem?_eq_getElem _
      generalize vals[i]'(by omega) = v at hx
      have hcx : (vals.map V.int)[i]? = some (.int v) := i_at hx
      refine ⟨.ref ca, rfl, .int (i : Int), rfl, ca, _, (i : Int), .int v, rfl, rfl, SqL.of (sm _ _ hca7), atI_nat hcx, v, rfl, _, rfl, iteF ?_⟩
      refine ⟨.ref ca, rfl, .int (i : Int), rfl, ca, _, (i : Int), .int v, rfl, rfl, SqL.of (sm _ _ hca7), atI_nat hcx, .ref da, rfl, .int (i : Int), rfl, da, _, (i : Int), .int v, rfl, rfl, SqL.of (sm _ _ hda), atI_nat hcx, rfl, _, rfl, ?_⟩
      rw [decide_eq_true rfl]
      exact iteF ⟨_, rfl, sm⟩
    rintro σ H8 ⟨y6, rfl, s78⟩
    have hP8 := hP7.same s78
    have hp8 := s78 _ _ hp7
    refine ⟨.ref p, rfl, p, dx, fs, rfl, hp8, p, ts', z, rfl, hP8, z, rfl, ?_⟩
    refine ⟨.str z, rfl, .str z, .ty "str", .type "str", .type "str", true, rfl, .ty "str", .base (.str z), kit_ty (by decide +kernel), _, rfl, iteF ⟨.str z, rfl, .str z, rfl, rfl, _, rfl, ?_⟩⟩
    rw [decide_eq_true rfl]
    refine iteF ?_
    refine ⟨.ref p, rfl, .str z, rfl, fun p2 dx2 np2 ndx2 hne2 => ⟨p2, dx2, z, rfl, upd_same, hz, fun hno => absurd (hno.symm.trans hts) (by simp), fun ts2 hts2 H9 hk9 hP2 => ⟨rfl, ?_⟩⟩⟩
    have s89 : Same H8 H9 := made_same np2 ndx2 hk9
    obtain ⟨dy, gs, ga, gus, hp2, _⟩ := id hP2
    refine ⟨p, dx, fs, p2, dy, gs, rfl, rfl, s89 _ _ hp8, hp2, p, p2, ts', ts2, z, z, rfl, hP8.same s89, hP2, _, rfl, _, true, rfl, rfl, _, rfl, ?_⟩
    rw [decide_eq_true (p := z = z) rfl]
    refine iteF ?_
    refine ⟨.ref p, rfl, .str z, rfl, p, dx, fs, z, rfl, rfl, s89 _ _ hp8, p, z, rfl, ⟨dx, fs, s89 _ _ hp8⟩, false, false, rfl, rfl, _, rfl, iteF ?_⟩
    have hp9 := s89 _ _ hp8
    have hP9 := hP8.same s89
    have s09 := s07.trans (s78.trans s89)
    -- the other pattern
    refine ⟨.ref p, rfl, .str y, rfl, fun p3 dx3 np3 ndx3 hne3 => ⟨p3, dx3, y, rfl, upd_same, hy, fun hno => absurd (hno.symm.trans hto) (by simp), fun ts3 hts3 HA hkA hP3 => ⟨rfl, ?_⟩⟩⟩
    have s9A : Same H9 HA := made_same np3 ndx3 hkA
    obtain ⟨dz, hs, ha, hus, hp3, _⟩ := id hP3
    refine ⟨p, dx, fs, p3, dz, hs, rfl, rfl, s9A _ _ hp9, hp3, p, p3, ts', ts3, z, y, rfl, hP9.same s9A, hP3, _, rfl, ?_⟩
    refine ⟨.str y, rfl, fun p4 dx4 np4 ndx4 hne4 => ⟨p4, dx4, y, rfl, upd_same, hy, fun hno => absurd (hno.symm.trans hto) (by simp), fun ts4 hts4 HB hkB hP4 => ⟨rfl, ?_⟩⟩⟩
    have sAB : Same HA HB := made_same np4 ndx4 hkB
    have s9B := s9A.trans sAB
    obtain ⟨du, is, ia, ius, hp4, _⟩ := id hP4
    refine ⟨.ref p, rfl, p4, du, is, p, dx, fs, rfl, rfl, hp4, s9B _ _ hp9, p4, p, ts4, ts', y, z, rfl, hP4, hP9.same s9B, _, rfl, by show 2 ≤ sizeLine; decide, fun LD nLD => ⟨LD, rfl, ⟨_, SqL.of upd_same⟩, ?_⟩⟩
    have sBC := same_new nLD (o := .lst [.bl (decide (z = y)), .bl (decide (y = z))])
    have hLD : (upd HB LD (.lst [.bl (decide (z = y)), .bl (decide (y = z))])) LD = some (.lst [.bl (decide (z = y)), .bl (decide (y = z))]) := upd_same
    have s0C := s09.trans (s9B.trans sBC)
    generalize upd HB LD (.lst [.bl (decide (z = y)), .bl (decide (y = z))]) = HC at sBC hLD s0C ⊢
    refine for_list (K := K) (a := LD) (xs := [.bl (decide (z = y)), .bl (decide (y = z))]) (fun i σ H' => ∃ y6 y8 : Option V, σ = [some (.str z), some (.ref la), some (.str y), some (.ref p), some (.ref ca), some (.ref da), y6, some (.str z), y8, none] ∧ Same HC H') ⟨y6, none, rfl, Same.refl _⟩ (fun i σ H' _ ⟨_, _, _, sm⟩ => SqL.of (sm _ _ hLD)) ?_ ?_
    · rintro i v σ H' hi ⟨y6, y8, rfl, sm⟩
      have hvv : v = .bl (decide (z = y)) := by
        match i, hi with
        | 0, hi => cases hi; rfl
        | 1, hi => cases hi; exact congrArg V.bl (decide_eq_decide.mpr ⟨Eq.symm, Eq.symm⟩)
        | i + 2, hi => simp at hi
      subst hvv
      refine ⟨.bl (decide (z = y)), rfl, .bl _, .ty "bool", .type "bool", .type "bool", true, rfl, .ty "bool", .base (.bl _), kit_ty (by decide +kernel), _, rfl, iteF ⟨.bl (decide (z = y)), rfl, .str z, rfl, .str y, rfl, rfl, rfl, _, rfl, ?_⟩⟩
      rw [eqW z y, decide_eq_true rfl]
      exact iteF ⟨_, _, rfl, sm⟩
    · rintro σ H' ⟨y6, y8, rfl, sm⟩
      exact q _ (s0C.trans sm)
end
end K10

set_option maxRecDepth 100000
set_option maxHeartbeats 4000000
namespace K10
open PySem PySem.Spec PyProof.Rows L2
theorem rdT_len {ws : List Str} {ts : List Tst} (h : rdT ws = some ts) : ts.length ≤ 4 := by
  unfold rdT at h
  split at h
  · split at h
    · cases h; assumption
    · cases h
  · cases h
theorem six_of {zs : List Str} (h : zs.length = 6) : ∃ a b c d e f, zs = [a, b, c, d, e, f] := by
  match zs, h with
  | [a, b, c, d, e, f], _ => exact ⟨a, b, c, d, e, f, rfl⟩
section
variable {P : Program} {w : World} {K : PySem.W.Frag} {mg : Str → Option Value} {base : Heap} {t1 t2 t3 t4 t5 t6 : Tok}
def spLaw (K : PySem.W.Frag) : Sp := fun vs H Q _ => ∃ (a : Addr) (ns : List Int), vs = [.ref a] ∧ SqL K H a (ns.map V.int) ∧ ns.length ≤ 63 ∧ ∀ H', Q (.bl true) H'
theorem scLaw : FnScope ["_law_script", "_law_names_here", "_law_good", "_law_once", "_law_twice", "_law_text", "_law_tests"] ["_law_script"] (defScope sLaw) := ⟨rfl, rfl, rfl, by decide +kernel, rfl, by decide +kernel, by decide +kernel⟩
set_option maxHeartbeats 16000000 in
theorem ok_law {CP C CL CV CN fI pa_ pn_ f f_is_letter f_name_end f_is_name f_read_test f_read_tests f_cell f_row f_names f_number f_drawn f_odd f_bent f_name f_read f_refused f_let f_pinit f_asked f_named f_plen f_pstr f_peq : Addr} {fdI fd fd_is_letter fd_name_end fd_is_name fd_read_test fd_read_tests fd_cell fd_row fd_names fd_number fd_drawn fd_odd fd_bent fd_name fd_read fd_refused fd_let fd_pinit fd_asked fd_named fd_plen fd_pstr fd_peq : FuncData}
    (B : Blt mg) (Z : Cst mg t1 t2 t3 t4 t5 t6) (T : Txt K mg CP) (S : Isi K CP) (M : Mk K CP f_pinit) (N : BadP K mg C fI fdI) (R : Errs K mg C CL CV CN) (hk : PySem.W.kitOne K (.type "str") (.ref CP) = some false) (hni : mg "NotImplemented" = none) (F : Fun K "law" "law" sLaw f fd)
    (F_is_letter : Fun K "is_letter" "is_letter" sLetter f_is_letter fd_is_letter) (b_is_letter : Binds K fd_is_letter ["char"] []) (g_is_letter : mg "is_letter" = some (.ref f_is_letter))
    (F_name_end : Fun K "name_end" "name_end" sNameEnd f_name_end fd_name_end) (b_name_end : Binds K fd_name_end ["text", "start"] []) (g_name_end : mg "name_end" = some (.ref f_name_end))
    (F_is_name : Fun K "is_name" "is_name" sIsName f_is_name fd_is_name) (b_is_name : Binds K fd_is_name ["text"] []) (g_is_name : mg "is_name" = some (.ref f_is_name))
    (F_read_test : Fun K "_read_test" "_read_test" sTest f_read_test fd_read_test) (b_read_test : Binds K fd_read_test ["word"] []) (g_read_test : mg "_read_test" = some (.ref f_read_test))
    (F_read_tests : Fun K "_read_tests" "_read_tests" sTests f_read_tests fd_read_tests) (b_read_tests : Binds K fd_read_tests ["text"] []) (g_read_tests : mg "_read_tests" = some (.ref f_read_tests))
    (F_cell : Fun K "_law_cell" "_law_cell" sCell f_cell fd_cell) (b_cell : Binds K fd_cell ["_law_script", "_law_k"] []) (g_cell : mg "_law_cell" = some (.ref f_cell))
    (F_row : Fun K "_law_row" "_law_row" sRow f_row fd_row) (b_row : Binds K fd_row ["_law_cell_here", "_law_limits"] []) (g_row : mg "_law_row" = some (.ref f_row))
    (F_names : Fun K "_law_names" "_law_names" sNames f_names fd_names) (b_names : Binds K fd_names ["_law_cell_here", "_law_many"] []) (g_names : mg "_law_names" = some (.ref f_names))
    (F_number : Fun K "_law_number" "_law_number" sNumber f_number fd_number) (b_number : Binds K fd_number ["_law_value"] []) (g_number : mg "_law_number" = some (.ref f_number))
    (F_drawn : Fun K "_law_drawn" "_law_drawn" sDrawn f_drawn fd_drawn) (b_drawn : Binds K fd_drawn ["_law_cell_here", "_law_kinds", "_law_marks"] []) (g_drawn : mg "_law_drawn" = some (.ref f_drawn))
    (F_odd : Fun K "_law_odd" "_law_odd" sOdd f_odd fd_odd) (b_odd : Binds K fd_odd ["_law_pick"] []) (g_odd : mg "_law_odd" = some (.ref f_odd))
    (F_bent : Fun K "_law_bent" "_law_bent" sBent f_bent fd_bent) (b_bent : Binds K fd_bent ["_law_cell_here", "_law_text"] []) (g_bent : mg "_law_bent" = some (.ref f_bent))
    (F_name : Fun K "_law_name" "_law_name" sLName f_name fd_name) (b_name : Binds K fd_name ["_law_text"] []) (g_name : mg "_law_name" = some (.ref f_name))
    (F_read : Fun K "_law_read" "_law_read" sRead f_read fd_read) (b_read : Binds K fd_read ["_law_text"] []) (g_read : mg "_law_read" = some (.ref f_read))
    (F_refused : Fun K "_law_refused" "_law_refused" sRefused f_refused fd_refused) (b_refused : Binds K fd_refused ["_law_text"] []) (g_refused : mg "_law_refused" = some (.ref f_refused))
    (F_let : Fun K "_law_let" "_law_let" sLet f_let fd_let) (b_let : Binds K fd_let ["_law_text", "_law_tests", "_law_other"] []) (g_let : mg "_law_let" = some (.ref f_let))
    (F_pinit : Fun K "__init__" "Pattern.__init__" sPInit f_pinit fd_pinit) (b_pinit : Binds K fd_pinit ["self", "text"] [])
    (F_asked : Fun K "asked" "Pattern.asked" sAsked f_asked fd_asked) (b_asked : Binds K fd_asked ["self"] []) (pa : PropOf K CP "asked" pa_ f_asked)
    (F_named : Fun K "named" "Pattern.named" sNamed f_named fd_named) (b_named : Binds K fd_named ["self"] []) (pn : PropOf K CP "named" pn_ f_named)
    (F_plen : Fun K "__len__" "Pattern.__len__" sPLen f_plen fd_plen) (b_plen : Binds K fd_plen ["self"] []) (L : OwnT K CP "__len__" f_plen)
    (F_pstr : Fun K "__str__" "Pattern.__str__" sPStr f_pstr fd_pstr) (b_pstr : Binds K fd_pstr ["self"] []) (U : Own K CP "__str__" f_pstr)
    (F_peq : Fun K "__eq__" "Pattern.__eq__" sPEq f_peq fd_peq) (b_peq : Binds K fd_peq ["self", "other"] []) (EQ : Own K CP "__eq__" f_peq) :
    FnOk P w K mg base CX0 9 f fd ["_law_script"] (spLaw K) := by
  have G_cell : FnOk P w K mg base CX0 1 f_cell fd_cell ["_law_script", "_law_k"] (spCell K) := ok_cell B F_cell
  have G_names : FnOk P w K mg base CX0 2 f_names fd_names ["_law_cell_here", "_law_many"] spNames := ok_names B F_names F_row b_row g_row
  have G_drawn : FnOk P w K mg base CX0 2 f_drawn fd_drawn ["_law_cell_here", "_law_kinds", "_law_marks"] (spDrawn K) := ok_drawn B F_drawn F_row b_row g_row
  have G_odd : FnOk P w K mg base CX0 1 f_odd fd_odd ["_law_pick"] spOdd := ok_odd B F_odd
  have G_bent : FnOk P w K mg base CX0 2 f_bent fd_bent ["_law_cell_here", "_law_text"] spBent := ok_bent B F_bent F_row b_row g_row F_odd b_odd g_odd
  have G_read : FnOk P w K mg base CX0 2 f_read fd_read ["_law_text"] spLRead := ok_lread B F_read F_name b_name g_name
  have G_pinit : FnOk P w K mg base (L2.CX P w) 6 f_pinit fd_pinit ["self", "text"] (spPInit CP C) := ok_pinit B Z T N F_pinit F_read_tests b_read_tests g_read_tests F_read_test b_read_test g_read_test F_is_name b_is_name g_is_name F_name_end b_name_end g_name_end F_is_letter b_is_letter g_is_letter
  have G_refused : FnOk P w K mg base CX0 8 f_refused fd_refused ["_law_text"] spRefused := ok_refused B T M N R F_refused G_pinit b_pinit
  have G_let : FnOk P w K mg base CX0 8 f_let fd_let ["_law_text", "_law_tests", "_law_other"] spLLet := ok_let B Z T S M F_let hk hni G_pinit b_pinit F_plen b_plen L F_asked b_asked pa F_named b_named pn F_pstr b_pstr U F_peq b_peq EQ F_number b_number g_number
  refine F.ok scLaw (fun vs H Q E h => ?_) (fun cdv A0 outer s H vs Q E hr h => ?_)
  · obtain ⟨a, ns, rfl, _⟩ := h; rfl
  · obtain ⟨a, ns, rfl, hS, hlen, q⟩ := h
    have hr1 : Room 1 _ := hr.mono (by decide)
    have hr2 : Room 2 _ := hr.mono (by decide)
    refine ⟨_, (pss_cons (ps_set (i := 1) scLaw.nd rfl (.inl rfl) (pe_call G_names hr2 (by rfl) g_names F_names.kp b_names .nil pass0 (pa_cons (pe_call G_cell hr1 (by rfl) g_cell F_cell.kp b_cell .nil pass0 (pa_cons (pv 0) (pa_cons pe_int pa_nil))) (pa_cons pe_int pa_nil))))
      (pss_cons (ps_set (i := 2) scLaw.nd rfl (.inl rfl) (pe_call G_drawn hr2 (by rfl) g_drawn F_drawn.kp b_drawn .nil pass0 (pa_cons (pe_call G_cell hr1 (by rfl) g_cell F_cell.kp b_cell .nil pass0 (pa_cons (pv 0) (pa_cons pe_int pa_nil))) (pa_cons (pe_op op_cat (pe_slice sl_list (pv 1) po_none (po_some pe_int)) (pe_lst (pa_cons pe_str pa_nil))) (pa_cons (pe_slice sl_list (pv 1) (po_some pe_int) po_none) pa_nil)))))
      (pss_cons (ps_set (i := 3) scLaw.nd rfl (.inl rfl) (pe_call G_bent hr2 (by rfl) g_bent F_bent.kp b_bent .nil pass0 (pa_cons (pe_call G_cell hr1 (by rfl) g_cell F_cell.kp b_cell .nil pass0 (pa_cons (pv 0) (pa_cons pe_int pa_nil))) (pa_cons (pv 2) pa_nil))))
      (pss_cons (ps_set (i := 4) scLaw.nd rfl (.inl rfl) (pe_call G_bent hr2 (by rfl) g_bent F_bent.kp b_bent .nil pass0 (pa_cons (pe_call G_cell hr1 (by rfl) g_cell F_cell.kp b_cell .nil pass0 (pa_cons (pv 0) (pa_cons pe_int pa_nil))) (pa_cons (pv 3) pa_nil))))
      (pss_cons (ps_for (PassesOwn.never) rfl (pi_list (pe_lst (pa_cons (pv 2) (pa_cons (pv 3) (pa_cons (pv 4) (pa_cons (pe_call G_odd hr1 (by rfl) g_odd F_odd.kp b_odd .nil pass0 (pa_cons (pe_call G_cell hr1 (by rfl) g_cell F_cell.kp b_cell .nil pass0 (pa_cons (pv 0) (pa_cons pe_int pa_nil))) pa_nil)) (pa_cons (pv 2) pa_nil))))))) (pg_name (i := 5) scLaw.nd rfl (.inl rfl))
      (pss_cons (ps_set (i := 6) scLaw.nd rfl (.inl rfl) (pe_call G_read hr2 (by rfl) g_read F_read.kp b_read .nil pass0 (pa_cons (pv 5) pa_nil)))
       (pss_one (ps_if (pt_cmpR op_isN (pv 6) pe_non (nomark _))
       (pss_one (ps_if (pt_not (pt_val (pe_call G_refused hr (by rfl) g_refused F_refused.kp b_refused .nil pass0 (pa_cons (pv 5) pa_nil))))
        (pss_one (ps_ret pe_bl))
        pss_nil))
       (pss_one (ps_if (pt_not (pt_val (pe_call G_let hr (by rfl) g_let F_let.kp b_let .nil pass0 (pa_cons (pv 5) (pa_cons (pv 6) (pa_cons (pv 2) pa_nil))))))
        (pss_one (ps_ret pe_bl))
        pss_nil))))))
      (pss_one (ps_ret pe_bl))))))), ?_⟩
    refine ⟨.ref a, rfl, a, ns, 0, rfl, hS, hlen, by decide, fun c0 => ⟨c0, rfl, fun H1 pN zs s1 nN hpN hz6 hzn => ?_⟩⟩
    obtain ⟨z0, z1, z2, z3, z4, z5, rfl⟩ := six_of hz6
    have m0 := hzn z0 (by simp); have m1 := hzn z1 (by simp); have m2 := hzn z2 (by simp); have m3 := hzn z3 (by simp); have m4 := hzn z4 (by simp); have m5 := hzn z5 (by simp)
    clear hzn hz6
    refine ⟨.ref a, rfl, a, ns, 1, rfl, s1.seq hS, hlen, by decide, fun c1 => ⟨.ref pN, rfl, 4, rfl, pN, _, rfl, SqL.of hpN, fun l6 n6 => ⟨by show 1 ≤ sizeLine; decide, fun l7 n7 => ⟨l6, l7, _, _, rfl, rfl, same_new n7 _ _ upd_same, upd_same, by show 4 + 1 ≤ sizeLine; decide, fun l8 n8 => ?_⟩⟩⟩⟩
    have s12 := (same_new n6 (o := .lst ([z0, z1, z2, z3].map V.str))).trans ((same_new n7 (o := .lst [.str (Str.ofString "*")])).trans (same_new n8 (o := .lst ([z0, z1, z2, z3, starS].map V.str))))
    have hl8 : (upd (upd (upd H1 l6 (.lst ([z0, z1, z2, z3].map V.str))) l7 (.lst [.str (Str.ofString "*")])) l8 (.lst ([z0, z1, z2, z3, starS].map V.str))) l8 = some (.lst ([z0, z1, z2, z3, starS].map V.str)) := upd_same
    have hpN2 := s12 _ _ hpN
    refine ⟨.ref pN, rfl, 4, rfl, pN, _, rfl, SqL.of hpN2, fun l9 n9 => ?_⟩
    have s23 := same_new n9 (o := .lst ([z4, z5].map V.str))
    refine ⟨c1, l8, l9, [z0, z1, z2, z3, starS], [z4, z5], rfl, s23 _ _ hl8, rfl, fun z hz => ?_, upd_same, rfl, fun z hz => ?_, fun H4 zg n s34 hzg hn3 => ?_⟩
    · simp only [List.mem_cons, List.not_mem_nil, or_false] at hz
      rcases hz with rfl | rfl | rfl | rfl | rfl
      · exact .inr m0
      · exact .inr m1
      · exact .inr m2
      · exact .inr m3
      · exact .inl rfl
    · simp only [List.mem_cons, List.not_mem_nil, or_false] at hz
      rcases hz with rfl | rfl <;> assumption
    have s04 := s1.trans (s12.trans (s23.trans s34))
    clear hl8 n6 n7 n8 n9 hpN2 s12 s23 s34 hpN nN s1
    have hgl : zg.length ≤ 77 := by rw [← tl_len]; exact hzg.len (by omega)
    obtain ⟨tg, htg⟩ := good_reads hzg hn3
    refine ⟨.ref a, rfl, a, ns, 2, rfl, s04.seq hS, hlen, by decide, fun c2 => ⟨.str zg, rfl, c2, zg, rfl, by omega, fun H5 zo s45 hzo => ?_⟩⟩
    have s05 := s04.trans s45
    refine ⟨.ref a, rfl, a, ns, 3, rfl, s05.seq hS, hlen, by decide, fun c3 => ⟨.str zo, rfl, c3, zo, rfl, by omega, fun H6 zt s56 hzt => ?_⟩⟩
    have s06 := s05.trans s56
    refine ⟨.str zg, rfl, .str zo, rfl, .str zt, rfl, .ref a, rfl, a, ns, 4, rfl, s06.seq hS, hlen, by decide, fun c4 => ⟨c4, rfl, fun H7 zd s67 hzd => ⟨.str zg, rfl, by show 5 ≤ sizeLine; decide, fun LL nLL => ⟨LL, rfl, ⟨_, SqL.of upd_same⟩, ?_⟩⟩⟩⟩
    have hLL : (upd H7 LL (.lst [.str zg, .str zo, .str zt, .str zd, .str zg])) LL = some (.lst [.str zg, .str zo, .str zt, .str zd, .str zg]) := upd_same
    generalize upd H7 LL (.lst [.str zg, .str zo, .str zt, .str zd, .str zg]) = H8 at hLL ⊢
    refine for_list (K := K) (a := LL) (xs := [.str zg, .str zo, .str zt, .str zd, .str zg]) (fun i σ H' => ∃ y5 y6 : Option V, σ = [some (.ref a), some (.ref pN), some (.str zg), some (.str zo), some (.str zt), y5, y6] ∧ Same H8 H') ⟨none, none, rfl, Same.refl _⟩ (fun i σ H' _ ⟨_, _, _, sm⟩ => SqL.of (sm _ _ hLL)) ?_ ?_
    · rintro i v σ H' hi ⟨y5, y6, rfl, sm⟩
      obtain ⟨x, rfl, hx⟩ : ∃ x : Str, v = .str x ∧ x.length ≤ 900 := by
        match i, hi with
        | 0, hi => cases hi; exact ⟨zg, rfl, by omega⟩
        | 1, hi => cases hi; exact ⟨zo, rfl, by omega⟩
        | 2, hi => cases hi; exact ⟨zt, rfl, by omega⟩
        | 3, hi => cases hi; exact ⟨zd, rfl, by omega⟩
        | 4, hi => cases hi; exact ⟨zg, rfl, by omega⟩
        | i + 5, hi => simp at hi
      refine ⟨.str x, rfl, x, rfl, hx, fun hno H9 s9 => ?_, fun ts hts H9 p us s9 hp hT => ?_⟩
      · refine ⟨.non, rfl, rfl, _, rfl, iteT ?_⟩
        exact ⟨.str x, rfl, x, rfl, hx, hno, fun HA sA => ⟨_, rfl, iteF ⟨_, _, rfl, sm.trans (s9.trans sA)⟩⟩⟩
      · refine ⟨.ref p, rfl, rfl, _, rfl, iteF ?_⟩
        exact ⟨.str x, rfl, .ref p, rfl, .str zg, rfl, x, zg, p, us, ts, tg, rfl, hx, by omega, hp, hT, rdT_len hts, hts, htg, fun HA sA => ⟨_, rfl, iteF ⟨_, _, rfl, sm.trans (s9.trans sA)⟩⟩⟩
    · rintro σ H' ⟨_, _, rfl, _⟩
      exact q H'
end
end K10

set_option maxRecDepth 100000
set_option maxHeartbeats 4000000
namespace K10
open PySem PySem.Spec PyProof.Rows L2
theorem all_mk {l : PySem.W.OpenLaw} {w : World} {K : PySem.W.Frag} {h : Heap} {mg : Str → Option Value} {fa CP C CL CV CN f1 f2 f3 f4 f5 f6 f7 f8 f9 f10 f11 f12 f13 f14 f15 f16 f17 f18 f19 f20 f21 f22 f23 f24 : Addr} (X : K.In h) (G : h.Ns mainGlobals mg) (hfa : mg "law" = some (.ref fa))
    {tk0 tk1 tk2 tk3 tk4 tk5 : Tok}
    {od1 an1 od2 an2 od3 an3 od4 an4 od5 an5 od6 an6 od7 an7 od8 an8 od9 an9 od10 an10 od11 an11 od12 an12 od13 an13 od14 an14 od15 an15 od16 an16 od17 an17 od18 an18 od19 an19 od20 an20 od21 an21 od22 an22 od23 an23 od24 an24 : Option Addr} {sl1 sl2 sl3 sl4 sl5 sl6 sl7 sl8 sl9 sl10 sl11 sl12 sl13 sl14 sl15 sl16 sl17 sl18 sl19 sl20 sl21 sl22 sl23 sl24 : Array (Option Value)}
    {oc1 kV1 dc1 pm1 cd1 ct1 oc2 kV2 dc2 pm2 cd2 ct2 oc3 kV3 dc3 pm3 cd3 ct3 oc4 kV4 dc4 pm4 cd4 ct4 oc5 kV5 dc5 pm5 cd5 ct5 oc6 kV6 dc6 pm6 cd6 ct6 oc7 kV7 dc7 pm7 cd7 ct7 oc8 kV8 dc8 pm8 cd8 ct8 oc9 kV9 dc9 pm9 cd9 ct9 oc10 kV10 dc10 pm10 cd10 ct10 oc11 kV11 dc11 pm11 cd11 ct11 oc12 kV12 dc12 pm12 cd12 ct12 oc13 kV13 dc13 pm13 cd13 ct13 oc14 kV14 dc14 pm14 cd14 ct14 oc15 kV15 dc15 pm15 cd15 ct15 oc16 kV16 dc16 pm16 cd16 ct16 oc17 kV17 dc17 pm17 cd17 ct17 oc18 kV18 dc18 pm18 cd18 ct18 oc19 kV19 dc19 pm19 cd19 ct19 oc20 kV20 dc20 pm20 cd20 ct20 oc21 kV21 dc21 pm21 cd21 ct21 oc22 kV22 dc22 pm22 cd22 ct22 oc23 kV23 dc23 pm23 cd23 ct23 oc24 kV24 dc24 pm24 cd24 ct24 : Value}
    {nm_C q_C : Str} {N_C : Addr} {bs_C bm_C : List Value} {sn_C : List Str} {sub_C : List Value} {ab_C : Bool} {col_C : Option Bool} {dd_C : Option Addr} {m0_C m1_C m2_C m3_C m5_C : Option Value}
    {pp19 : Addr} {pl19 : List Value}
    {pp20 : Addr} {pl20 : List Value}
    (c_LONGEST_NAME : PySem.W.nsIn K mainGlobals "LONGEST_NAME" = some (some (.int 8 tk0)))
    (c_MOST_TESTS : PySem.W.nsIn K mainGlobals "MOST_TESTS" = some (some (.int 4 tk1)))
    (c_ANY_KIND : PySem.W.nsIn K mainGlobals "ANY_KIND" = some (some (.str (Str.ofString "*") tk2)))
    (c_INSIDE : PySem.W.nsIn K mainGlobals "INSIDE" = some (some (.str (Str.ofString "") tk3)))
    (c_CHILD : PySem.W.nsIn K mainGlobals "CHILD" = some (some (.str (Str.ofString ">") tk4)))
    (c_BEHIND : PySem.W.nsIn K mainGlobals "BEHIND" = some (some (.str (Str.ofString "+") tk5)))
    (aCP : PySem.W.nsIn K mainGlobals "Pattern" = some (some (.ref CP)))
    (pgCP : PySem.W.plainGet K CP Str.empty = true)
    (hdCP : PySem.W.hasDictIn K CP = true)
    (poCP : PySem.W.plainOver K CP = true)
    (saCP : PySem.W.findIn K (.ref CP) "__setattr__" = some (some (.builtin "object.__setattr__")))
    (mkCP : PySem.W.makesIn K CP = true)
    (kcCP : PySem.W.keepIn K (.ref CP) = true)
    (nCP_tests : PySem.W.findIn K (.ref CP) "tests" = some none)
    (nCP_links : PySem.W.findIn K (.ref CP) "links" = some none)
    (nCP_text : PySem.W.findIn K (.ref CP) "_text" = some none)
    (aCL : PySem.W.nsIn K mainGlobals "LaidError" = some (some (.ref CL)))
    (aCV : PySem.W.nsIn K mainGlobals "BadValue" = some (some (.ref CV)))
    (aCN : PySem.W.nsIn K mainGlobals "BadLine" = some (some (.ref CN)))
    (aC : PySem.W.nsIn K mainGlobals "BadPattern" = some (some (.ref C)))
    (x_C : K.lookup C = some (excClassObj nm_C q_C C N_C bs_C bm_C true sn_C sub_C ab_C col_C dd_C m0_C m1_C m2_C m3_C m5_C "ValueError.__new__"))
    (xb_C : PySem.HandSPX.refsVE bm_C = true)
    (sa_C : PySem.W.findIn K (.ref C) "__setattr__" = some (some (.builtin "object.__setattr__")))
    (xe_C : PySem.W.subIn K (.ref C) (.type "BaseException") = some true)
    (xt_C : PySem.W.typeIn K (.ref C) = some (.type "type"))
    (xk_C : PySem.W.keepIn K (.ref C) = true)
    (f_C_text : PySem.W.findIn K (.ref C) "text" = some none)
    (hg_C : PySem.W.findIn K (.ref C) "__getattribute__" = some (some (.builtin "BaseException.__getattribute__")))
    (hk_C : PySem.W.findIn K (.ref C) "__getattr__" = some none)
    (hd_C : PySem.W.hasDictIn K C = true)
    (ha_C : PySem.W.findIn K (.ref C) "__class__" = some (some (.builtin "object.__class__")))
    (hn_C : PySem.W.specialIn K (.builtin "object.__class__") "__get__" = some (some (.builtin "getset_descriptor.__get__")))
    (ht_C : PySem.W.takesIn K (.builtin "object.__class__") = some true)
    (hm_C : PySem.W.mroIn K C (.type "object") = some true)
    (ls_C : PySem.W.subIn K (.ref C) (.ref C) = some true)
    (q1_C : PySem.W.kitOne K (.ref C) (.ref CL) = some true)
    (q2_C : PySem.W.kitOne K (.ref C) (.type "ValueError") = some true)
    (q3_C : PySem.W.kitOne K (.ref C) (.ref CV) = some false)
    (q4_C : PySem.W.kitOne K (.ref C) (.ref CN) = some false)
    (ih_ha : PySem.W.findIn K (.ref CP) "__class__" = some (some (.builtin "object.__class__")))
    (ih_hn : PySem.W.specialIn K (.builtin "object.__class__") "__get__" = some (some (.builtin "getset_descriptor.__get__")))
    (ih_ht : PySem.W.takesIn K (.builtin "object.__class__") = some true)
    (ih_hm : PySem.W.mroIn K CP (.type "object") = some true)
    (ih_ks : PySem.W.kitOne K (.ref CP) (.ref CP) = some true)
    (ih_hk : PySem.W.kitOne K (.type "str") (.ref CP) = some false)
    (ih_ni : PySem.W.nsIn K mainGlobals "NotImplemented" = some none)
    (a1 : PySem.W.nsIn K mainGlobals "is_letter" = some (some (.ref f1)))
    (l1 : K.lookup f1 = some ⟨oc1, od1, .func (PySem.W.fnOf "is_letter" "is_letter" (defArgs sLetter) (defBody sLetter) (defScope sLetter) .none kV1 dc1 pm1 an1 cd1 ct1), sl1⟩)
    (c1 : PySem.W.codeIn K cd1 "is_letter" = true)
    (k1 : PySem.W.keepIn K (.ref f1) = true)
    (a2 : PySem.W.nsIn K mainGlobals "name_end" = some (some (.ref f2)))
    (l2 : K.lookup f2 = some ⟨oc2, od2, .func (PySem.W.fnOf "name_end" "name_end" (defArgs sNameEnd) (defBody sNameEnd) (defScope sNameEnd) .none kV2 dc2 pm2 an2 cd2 ct2), sl2⟩)
    (c2 : PySem.W.codeIn K cd2 "name_end" = true)
    (k2 : PySem.W.keepIn K (.ref f2) = true)
    (a3 : PySem.W.nsIn K mainGlobals "is_name" = some (some (.ref f3)))
    (l3 : K.lookup f3 = some ⟨oc3, od3, .func (PySem.W.fnOf "is_name" "is_name" (defArgs sIsName) (defBody sIsName) (defScope sIsName) .none kV3 dc3 pm3 an3 cd3 ct3), sl3⟩)
    (c3 : PySem.W.codeIn K cd3 "is_name" = true)
    (k3 : PySem.W.keepIn K (.ref f3) = true)
    (a4 : PySem.W.nsIn K mainGlobals "_read_test" = some (some (.ref f4)))
    (l4 : K.lookup f4 = some ⟨oc4, od4, .func (PySem.W.fnOf "_read_test" "_read_test" (defArgs sTest) (defBody sTest) (defScope sTest) .none kV4 dc4 pm4 an4 cd4 ct4), sl4⟩)
    (c4 : PySem.W.codeIn K cd4 "_read_test" = true)
    (k4 : PySem.W.keepIn K (.ref f4) = true)
    (a5 : PySem.W.nsIn K mainGlobals "_read_tests" = some (some (.ref f5)))
    (l5 : K.lookup f5 = some ⟨oc5, od5, .func (PySem.W.fnOf "_read_tests" "_read_tests" (defArgs sTests) (defBody sTests) (defScope sTests) .none kV5 dc5 pm5 an5 cd5 ct5), sl5⟩)
    (c5 : PySem.W.codeIn K cd5 "_read_tests" = true)
    (k5 : PySem.W.keepIn K (.ref f5) = true)
    (a6 : PySem.W.nsIn K mainGlobals "_law_cell" = some (some (.ref f6)))
    (l6 : K.lookup f6 = some ⟨oc6, od6, .func (PySem.W.fnOf "_law_cell" "_law_cell" (defArgs sCell) (defBody sCell) (defScope sCell) .none kV6 dc6 pm6 an6 cd6 ct6), sl6⟩)
    (c6 : PySem.W.codeIn K cd6 "_law_cell" = true)
    (k6 : PySem.W.keepIn K (.ref f6) = true)
    (a7 : PySem.W.nsIn K mainGlobals "_law_row" = some (some (.ref f7)))
    (l7 : K.lookup f7 = some ⟨oc7, od7, .func (PySem.W.fnOf "_law_row" "_law_row" (defArgs sRow) (defBody sRow) (defScope sRow) .none kV7 dc7 pm7 an7 cd7 ct7), sl7⟩)
    (c7 : PySem.W.codeIn K cd7 "_law_row" = true)
    (k7 : PySem.W.keepIn K (.ref f7) = true)
    (a8 : PySem.W.nsIn K mainGlobals "_law_names" = some (some (.ref f8)))
    (l8 : K.lookup f8 = some ⟨oc8, od8, .func (PySem.W.fnOf "_law_names" "_law_names" (defArgs sNames) (defBody sNames) (defScope sNames) .none kV8 dc8 pm8 an8 cd8 ct8), sl8⟩)
    (c8 : PySem.W.codeIn K cd8 "_law_names" = true)
    (k8 : PySem.W.keepIn K (.ref f8) = true)
    (a9 : PySem.W.nsIn K mainGlobals "_law_number" = some (some (.ref f9)))
    (l9 : K.lookup f9 = some ⟨oc9, od9, .func (PySem.W.fnOf "_law_number" "_law_number" (defArgs sNumber) (defBody sNumber) (defScope sNumber) .none kV9 dc9 pm9 an9 cd9 ct9), sl9⟩)
    (c9 : PySem.W.codeIn K cd9 "_law_number" = true)
    (k9 : PySem.W.keepIn K (.ref f9) = true)
    (a10 : PySem.W.nsIn K mainGlobals "_law_drawn" = some (some (.ref f10)))
    (l10 : K.lookup f10 = some ⟨oc10, od10, .func (PySem.W.fnOf "_law_drawn" "_law_drawn" (defArgs sDrawn) (defBody sDrawn) (defScope sDrawn) .none kV10 dc10 pm10 an10 cd10 ct10), sl10⟩)
    (c10 : PySem.W.codeIn K cd10 "_law_drawn" = true)
    (k10 : PySem.W.keepIn K (.ref f10) = true)
    (a11 : PySem.W.nsIn K mainGlobals "_law_odd" = some (some (.ref f11)))
    (l11 : K.lookup f11 = some ⟨oc11, od11, .func (PySem.W.fnOf "_law_odd" "_law_odd" (defArgs sOdd) (defBody sOdd) (defScope sOdd) .none kV11 dc11 pm11 an11 cd11 ct11), sl11⟩)
    (c11 : PySem.W.codeIn K cd11 "_law_odd" = true)
    (k11 : PySem.W.keepIn K (.ref f11) = true)
    (a12 : PySem.W.nsIn K mainGlobals "_law_bent" = some (some (.ref f12)))
    (l12 : K.lookup f12 = some ⟨oc12, od12, .func (PySem.W.fnOf "_law_bent" "_law_bent" (defArgs sBent) (defBody sBent) (defScope sBent) .none kV12 dc12 pm12 an12 cd12 ct12), sl12⟩)
    (c12 : PySem.W.codeIn K cd12 "_law_bent" = true)
    (k12 : PySem.W.keepIn K (.ref f12) = true)
    (a13 : PySem.W.nsIn K mainGlobals "_law_name" = some (some (.ref f13)))
    (l13 : K.lookup f13 = some ⟨oc13, od13, .func (PySem.W.fnOf "_law_name" "_law_name" (defArgs sLName) (defBody sLName) (defScope sLName) .none kV13 dc13 pm13 an13 cd13 ct13), sl13⟩)
    (c13 : PySem.W.codeIn K cd13 "_law_name" = true)
    (k13 : PySem.W.keepIn K (.ref f13) = true)
    (a14 : PySem.W.nsIn K mainGlobals "_law_read" = some (some (.ref f14)))
    (l14 : K.lookup f14 = some ⟨oc14, od14, .func (PySem.W.fnOf "_law_read" "_law_read" (defArgs sRead) (defBody sRead) (defScope sRead) .none kV14 dc14 pm14 an14 cd14 ct14), sl14⟩)
    (c14 : PySem.W.codeIn K cd14 "_law_read" = true)
    (k14 : PySem.W.keepIn K (.ref f14) = true)
    (a15 : PySem.W.nsIn K mainGlobals "_law_refused" = some (some (.ref f15)))
    (l15 : K.lookup f15 = some ⟨oc15, od15, .func (PySem.W.fnOf "_law_refused" "_law_refused" (defArgs sRefused) (defBody sRefused) (defScope sRefused) .none kV15 dc15 pm15 an15 cd15 ct15), sl15⟩)
    (c15 : PySem.W.codeIn K cd15 "_law_refused" = true)
    (k15 : PySem.W.keepIn K (.ref f15) = true)
    (a16 : PySem.W.nsIn K mainGlobals "_law_let" = some (some (.ref f16)))
    (l16 : K.lookup f16 = some ⟨oc16, od16, .func (PySem.W.fnOf "_law_let" "_law_let" (defArgs sLet) (defBody sLet) (defScope sLet) .none kV16 dc16 pm16 an16 cd16 ct16), sl16⟩)
    (c16 : PySem.W.codeIn K cd16 "_law_let" = true)
    (k16 : PySem.W.keepIn K (.ref f16) = true)
    (a17 : PySem.W.nsIn K mainGlobals "law" = some (some (.ref f17)))
    (l17 : K.lookup f17 = some ⟨oc17, od17, .func (PySem.W.fnOf "law" "law" (defArgs sLaw) (defBody sLaw) (defScope sLaw) .none kV17 dc17 pm17 an17 cd17 ct17), sl17⟩)
    (c17 : PySem.W.codeIn K cd17 "law" = true)
    (k17 : PySem.W.keepIn K (.ref f17) = true)
    (a18 : PySem.W.findIn K (.ref CP) "__init__" = some (some (.ref f18)))
    (i18 : PySem.W.isFn K (.ref f18) = true)
    (l18 : K.lookup f18 = some ⟨oc18, od18, .func (PySem.W.fnOf "__init__" "Pattern.__init__" (defArgs sPInit) (defBody sPInit) (defScope sPInit) .none kV18 dc18 pm18 an18 cd18 ct18), sl18⟩)
    (c18 : PySem.W.codeIn K cd18 "Pattern.__init__" = true)
    (k18 : PySem.W.keepIn K (.ref f18) = true)
    (a19 : PySem.W.findIn K (.ref CP) "asked" = some (some (.ref pp19)))
    (pg19 : PySem.W.specialIn K (.ref pp19) "__get__" = some (some (.builtin "property.__get__")))
    (pt19 : PySem.W.takesIn K (.ref pp19) = some true)
    (pr19 : PySem.W.recIn K pp19 "property" = some (.ref f19 :: pl19))
    (l19 : K.lookup f19 = some ⟨oc19, od19, .func (PySem.W.fnOf "asked" "Pattern.asked" (defArgs sAsked) (defBody sAsked) (defScope sAsked) .none kV19 dc19 pm19 an19 cd19 ct19), sl19⟩)
    (c19 : PySem.W.codeIn K cd19 "Pattern.asked" = true)
    (k19 : PySem.W.keepIn K (.ref f19) = true)
    (a20 : PySem.W.findIn K (.ref CP) "named" = some (some (.ref pp20)))
    (pg20 : PySem.W.specialIn K (.ref pp20) "__get__" = some (some (.builtin "property.__get__")))
    (pt20 : PySem.W.takesIn K (.ref pp20) = some true)
    (pr20 : PySem.W.recIn K pp20 "property" = some (.ref f20 :: pl20))
    (l20 : K.lookup f20 = some ⟨oc20, od20, .func (PySem.W.fnOf "named" "Pattern.named" (defArgs sNamed) (defBody sNamed) (defScope sNamed) .none kV20 dc20 pm20 an20 cd20 ct20), sl20⟩)
    (c20 : PySem.W.codeIn K cd20 "Pattern.named" = true)
    (k20 : PySem.W.keepIn K (.ref f20) = true)
    (a21 : PySem.W.findIn K (.ref CP) "__len__" = some (some (.ref f21)))
    (i21 : PySem.W.isFn K (.ref f21) = true)
    (x21 : PySem.W.typeIn K (.ref f21) = some (.type "function"))
    (l21 : K.lookup f21 = some ⟨oc21, od21, .func (PySem.W.fnOf "__len__" "Pattern.__len__" (defArgs sPLen) (defBody sPLen) (defScope sPLen) .none kV21 dc21 pm21 an21 cd21 ct21), sl21⟩)
    (c21 : PySem.W.codeIn K cd21 "Pattern.__len__" = true)
    (k21 : PySem.W.keepIn K (.ref f21) = true)
    (a22 : PySem.W.findIn K (.ref CP) "__str__" = some (some (.ref f22)))
    (i22 : PySem.W.isFn K (.ref f22) = true)
    (l22 : K.lookup f22 = some ⟨oc22, od22, .func (PySem.W.fnOf "__str__" "Pattern.__str__" (defArgs sPStr) (defBody sPStr) (defScope sPStr) .none kV22 dc22 pm22 an22 cd22 ct22), sl22⟩)
    (c22 : PySem.W.codeIn K cd22 "Pattern.__str__" = true)
    (k22 : PySem.W.keepIn K (.ref f22) = true)
    (a23 : PySem.W.findIn K (.ref CP) "__eq__" = some (some (.ref f23)))
    (i23 : PySem.W.isFn K (.ref f23) = true)
    (l23 : K.lookup f23 = some ⟨oc23, od23, .func (PySem.W.fnOf "__eq__" "Pattern.__eq__" (defArgs sPEq) (defBody sPEq) (defScope sPEq) .none kV23 dc23 pm23 an23 cd23 ct23), sl23⟩)
    (c23 : PySem.W.codeIn K cd23 "Pattern.__eq__" = true)
    (k23 : PySem.W.keepIn K (.ref f23) = true)
    (a24 : PySem.W.findIn K (.ref C) "__init__" = some (some (.ref f24)))
    (l24 : K.lookup f24 = some ⟨oc24, od24, .func (PySem.W.fnOf "__init__" "BadPattern.__init__" (defArgs sBPInit) (defBody sBPInit) (defScope sBPInit) .none kV24 dc24 pm24 an24 cd24 ct24), sl24⟩)
    (c24 : PySem.W.codeIn K cd24 "BadPattern.__init__" = true)
    (k24 : PySem.W.keepIn K (.ref f24) = true)
    (t24 : PySem.W.typeIn K (.ref f24) = some (.type "function"))
    (z0 : PySem.W.nsIn K mainGlobals "len" = some none)
    (z1 : PySem.W.nsIn K mainGlobals "int" = some none)
    (z2 : PySem.W.nsIn K mainGlobals "str" = some none)
    (z3 : PySem.W.nsIn K mainGlobals "bool" = some none)
    (z4 : PySem.W.nsIn K mainGlobals "tuple" = some none)
    (z5 : PySem.W.nsIn K mainGlobals "range" = some none)
    (z6 : PySem.W.nsIn K mainGlobals "isinstance" = some none)
    (z7 : PySem.W.nsIn K mainGlobals "ValueError" = some none) :
    ∃ fd : FuncData, (∀ (s : Shared) (v : Value), BindsTo s fd ⟨[v], []⟩ [("_law_script", v)]) ∧ ∀ base : Heap, K.In base → base.Ns mainGlobals mg → FnOk l.prog w K mg base CX0 9 fa fd ["_law_script"] (spLaw K) := by
  have e := hfa.symm.trans (PySem.W.mg_of X G a17); cases e
  have B : Blt mg := ⟨PySem.W.mg_none_of X G z0, PySem.W.mg_none_of X G z1, PySem.W.mg_none_of X G z2, PySem.W.mg_none_of X G z3, PySem.W.mg_none_of X G z4, PySem.W.mg_none_of X G z5, PySem.W.mg_none_of X G z6, PySem.W.mg_none_of X G z7⟩
  have Z : Cst mg tk0 tk1 tk2 tk3 tk4 tk5 := ⟨PySem.W.mg_of X G c_LONGEST_NAME, PySem.W.mg_of X G c_MOST_TESTS, PySem.W.mg_of X G c_ANY_KIND, PySem.W.mg_of X G c_INSIDE, PySem.W.mg_of X G c_CHILD, PySem.W.mg_of X G c_BEHIND⟩
  have F1 := fun_mk (st := sLetter) l1 c1 k1
  have F2 := fun_mk (st := sNameEnd) l2 c2 k2
  have F3 := fun_mk (st := sIsName) l3 c3 k3
  have F4 := fun_mk (st := sTest) l4 c4 k4
  have F5 := fun_mk (st := sTests) l5 c5 k5
  have F6 := fun_mk (st := sCell) l6 c6 k6
  have F7 := fun_mk (st := sRow) l7 c7 k7
  have F8 := fun_mk (st := sNames) l8 c8 k8
  have F9 := fun_mk (st := sNumber) l9 c9 k9
  have F10 := fun_mk (st := sDrawn) l10 c10 k10
  have F11 := fun_mk (st := sOdd) l11 c11 k11
  have F12 := fun_mk (st := sBent) l12 c12 k12
  have F13 := fun_mk (st := sLName) l13 c13 k13
  have F14 := fun_mk (st := sRead) l14 c14 k14
  have F15 := fun_mk (st := sRefused) l15 c15 k15
  have F16 := fun_mk (st := sLet) l16 c16 k16
  have F17 := fun_mk (st := sLaw) l17 c17 k17
  have F18 := fun_mk (st := sPInit) l18 c18 k18
  have F19 := fun_mk (st := sAsked) l19 c19 k19
  have F20 := fun_mk (st := sNamed) l20 c20 k20
  have F21 := fun_mk (st := sPLen) l21 c21 k21
  have F22 := fun_mk (st := sPStr) l22 c22 k22
  have F23 := fun_mk (st := sPEq) l23 c23 k23
  have F24 := fun_mk (st := sBPInit) l24 c24 k24
  have b1 := F1.binds (ps := ["char"]) fun _ _ _ _ _ _ us hl => match us, hl with | [_], _ => rfl
  have b2 := F2.binds (ps := ["text", "start"]) fun _ _ _ _ _ _ us hl => match us, hl with | [_, _], _ => rfl
  have b3 := F3.binds (ps := ["text"]) fun _ _ _ _ _ _ us hl => match us, hl with | [_], _ => rfl
  have b4 := F4.binds (ps := ["word"]) fun _ _ _ _ _ _ us hl => match us, hl with | [_], _ => rfl
  have b5 := F5.binds (ps := ["text"]) fun _ _ _ _ _ _ us hl => match us, hl with | [_], _ => rfl
  have b6 := F6.binds (ps := ["_law_script", "_law_k"]) fun _ _ _ _ _ _ us hl => match us, hl with | [_, _], _ => rfl
  have b7 := F7.binds (ps := ["_law_cell_here", "_law_limits"]) fun _ _ _ _ _ _ us hl => match us, hl with | [_, _], _ => rfl
  have b8 := F8.binds (ps := ["_law_cell_here", "_law_many"]) fun _ _ _ _ _ _ us hl => match us, hl with | [_, _], _ => rfl
  have b9 := F9.binds (ps := ["_law_value"]) fun _ _ _ _ _ _ us hl => match us, hl with | [_], _ => rfl
  have b10 := F10.binds (ps := ["_law_cell_here", "_law_kinds", "_law_marks"]) fun _ _ _ _ _ _ us hl => match us, hl with | [_, _, _], _ => rfl
  have b11 := F11.binds (ps := ["_law_pick"]) fun _ _ _ _ _ _ us hl => match us, hl with | [_], _ => rfl
  have b12 := F12.binds (ps := ["_law_cell_here", "_law_text"]) fun _ _ _ _ _ _ us hl => match us, hl with | [_, _], _ => rfl
  have b13 := F13.binds (ps := ["_law_text"]) fun _ _ _ _ _ _ us hl => match us, hl with | [_], _ => rfl
  have b14 := F14.binds (ps := ["_law_text"]) fun _ _ _ _ _ _ us hl => match us, hl with | [_], _ => rfl
  have b15 := F15.binds (ps := ["_law_text"]) fun _ _ _ _ _ _ us hl => match us, hl with | [_], _ => rfl
  have b16 := F16.binds (ps := ["_law_text", "_law_tests", "_law_other"]) fun _ _ _ _ _ _ us hl => match us, hl with | [_, _, _], _ => rfl
  have b18 := F18.binds (ps := ["self", "text"]) fun _ _ _ _ _ _ us hl => match us, hl with | [_, _], _ => rfl
  have b19 := F19.binds (ps := ["self"]) fun _ _ _ _ _ _ us hl => match us, hl with | [_], _ => rfl
  have b20 := F20.binds (ps := ["self"]) fun _ _ _ _ _ _ us hl => match us, hl with | [_], _ => rfl
  have b21 := F21.binds (ps := ["self"]) fun _ _ _ _ _ _ us hl => match us, hl with | [_], _ => rfl
  have b22 := F22.binds (ps := ["self"]) fun _ _ _ _ _ _ us hl => match us, hl with | [_], _ => rfl
  have b23 := F23.binds (ps := ["self", "other"]) fun _ _ _ _ _ _ us hl => match us, hl with | [_, _], _ => rfl
  have b24 := F24.binds (ps := ["self", "text"]) fun _ _ _ _ _ _ us hl => match us, hl with | [_, _], _ => rfl
  have T : Txt K mg CP := ⟨⟨pgCP, hdCP, poCP, saCP⟩, nCP_tests, nCP_links, nCP_text, PySem.W.mg_of X G aCP⟩
  have IS : Isi K CP := ⟨⟨pgCP, hdCP, poCP, saCP⟩, ih_ha, ih_hn, ih_ht, ih_hm, ih_ks⟩
  have NP : BadP K mg C f24 _ := ⟨PySem.W.mg_of X G aC, ⟨⟨nm_C, q_C, N_C, bs_C, bm_C, sn_C, sub_C, ab_C, col_C, dd_C, m0_C, m1_C, m2_C, m3_C, m5_C, x_C, xb_C⟩, sa_C, xe_C, xt_C, xk_C⟩, f_C_text, a24, t24, F24, b24⟩
  have ER : Errs K mg C CL CV CN := ⟨PySem.W.mg_of X G aCL, PySem.W.mg_of X G aCV, PySem.W.mg_of X G aCN, ⟨hg_C, hk_C, xe_C, hd_C, ha_C, hn_C, ht_C, hm_C⟩, PySem.W.exm_ref xe_C hd_C xt_C ls_C, q1_C, q2_C, q3_C, q4_C⟩
  exact ⟨PySem.W.fnOf "law" "law" (defArgs sLaw) (defBody sLaw) (defScope sLaw) .none kV17 dc17 pm17 an17 cd17 ct17, fun s v => .of_eq rfl, fun base _ _ =>
    ok_law B Z T IS ⟨mkCP, a18, i18, kcCP⟩ NP ER ih_hk (PySem.W.mg_none_of X G ih_ni) F17 F1 b1 (PySem.W.mg_of X G a1) F2 b2 (PySem.W.mg_of X G a2) F3 b3 (PySem.W.mg_of X G a3) F4 b4 (PySem.W.mg_of X G a4) F5 b5 (PySem.W.mg_of X G a5) F6 b6 (PySem.W.mg_of X G a6) F7 b7 (PySem.W.mg_of X G a7) F8 b8 (PySem.W.mg_of X G a8) F9 b9 (PySem.W.mg_of X G a9) F10 b10 (PySem.W.mg_of X G a10) F11 b11 (PySem.W.mg_of X G a11) F12 b12 (PySem.W.mg_of X G a12) F13 b13 (PySem.W.mg_of X G a13) F14 b14 (PySem.W.mg_of X G a14) F15 b15 (PySem.W.mg_of X G a15) F16 b16 (PySem.W.mg_of X G a16) F18 b18 F19 b19 ⟨a19, pg19, pt19, ⟨_, pr19⟩⟩ F20 b20 ⟨a20, pg20, pt20, ⟨_, pr20⟩⟩ F21 b21 ⟨a21, x21⟩ F22 b22 ⟨a22, i22⟩ F23 b23 ⟨a23, i23⟩⟩
end K10
open PySem PySem.W PyProof.Rows
set_option maxRecDepth 100000 in
set_option maxHeartbeats 0 in
theorem PySem.Challenge.cw_laidforall_k10_patterns_read_holds : PySem.Challenge.rw_laidforall_k10_patterns_read.Holds := by
  w_on; o_law; k_head; (case hw => w_witness2)
  k_fill
  refine L2.walk_of (l := PySem.Challenge.rw_laidforall_k10_patterns_read) (n := 63) (k := 9) (x := "_law_script") (CX := fun _ => L2.CX0) (sp := fun w => K10.spLaw _) rfl (by decide) rfl ⟨rfl, by decide, by decide⟩ (fun w h Y => PySem.W.kIn_of Y) ?F (fun _ _ a ns hl _ hS => ⟨a, ns, rfl, hS, hl, fun _ => rfl⟩) (fun _ _ _ _ _ h => h)
  case F =>
    intro w mg fa h KX G hmg
    refine' K10.all_mk KX G hmg ?zz_c_LONGEST_NAME ?zz_c_MOST_TESTS ?zz_c_ANY_KIND ?zz_c_INSIDE ?zz_c_CHILD ?zz_c_BEHIND ?zz_aCP ?zz_pgCP ?zz_hdCP ?zz_poCP ?zz_saCP ?zz_mkCP ?zz_kcCP ?zz_nCP_tests ?zz_nCP_links ?zz_nCP_text ?zz_aCL ?zz_aCV ?zz_aCN ?zz_aC ?zz_x_C ?zz_xb_C ?zz_sa_C ?zz_xe_C ?zz_xt_C ?zz_xk_C ?zz_f_C_text ?zz_hg_C ?zz_hk_C ?zz_hd_C ?zz_ha_C ?zz_hn_C ?zz_ht_C ?zz_hm_C ?zz_ls_C ?zz_q1_C ?zz_q2_C ?zz_q3_C ?zz_q4_C ?zz_ih_ha ?zz_ih_hn ?zz_ih_ht ?zz_ih_hm ?zz_ih_ks ?zz_ih_hk ?zz_ih_ni ?zz_a1 ?zz_l1 ?zz_c1 ?zz_k1 ?zz_a2 ?zz_l2 ?zz_c2 ?zz_k2 ?zz_a3 ?zz_l3 ?zz_c3 ?zz_k3 ?zz_a4 ?zz_l4 ?zz_c4 ?zz_k4 ?zz_a5 ?zz_l5 ?zz_c5 ?zz_k5 ?zz_a6 ?zz_l6 ?zz_c6 ?zz_k6 ?zz_a7 ?zz_l7 ?zz_c7 ?zz_k7 ?zz_a8 ?zz_l8 ?zz_c8 ?zz_k8 ?zz_a9 ?zz_l9 ?zz_c9 ?zz_k9 ?zz_a10 ?zz_l10 ?zz_c10 ?zz_k10 ?zz_a11 ?zz_l11 ?zz_c11 ?zz_k11 ?zz_a12 ?zz_l12 ?zz_c12 ?zz_k12 ?zz_a13 ?zz_l13 ?zz_c13 ?zz_k13 ?zz_a14 ?zz_l14 ?zz_c14 ?zz_k14 ?zz_a15 ?zz_l15 ?zz_c15 ?zz_k15 ?zz_a16 ?zz_l16 ?zz_c16 ?zz_k16 ?zz_a17 ?zz_l17 ?zz_c17 ?zz_k17 ?zz_a18 ?zz_i18 ?zz_l18 ?zz_c18 ?zz_k18 ?zz_a19 ?zz_pg19 ?zz_pt19 ?zz_pr19 ?zz_l19 ?zz_c19 ?zz_k19 ?zz_a20 ?zz_pg20 ?zz_pt20 ?zz_pr20 ?zz_l20 ?zz_c20 ?zz_k20 ?zz_a21 ?zz_i21 ?zz_x21 ?zz_l21 ?zz_c21 ?zz_k21 ?zz_a22 ?zz_i22 ?zz_l22 ?zz_c22 ?zz_k22 ?zz_a23 ?zz_i23 ?zz_l23 ?zz_c23 ?zz_k23 ?zz_a24 ?zz_l24 ?zz_c24 ?zz_k24 ?zz_t24 ?zz_z0 ?zz_z1 ?zz_z2 ?zz_z3 ?zz_z4 ?zz_z5 ?zz_z6 ?zz_z7
    (case zz_c_LONGEST_NAME => first | k_is | rfl)
    (case zz_c_MOST_TESTS => first | k_is | rfl)
    (case zz_c_ANY_KIND => first | k_is | rfl)
    (case zz_c_INSIDE => first | k_is | rfl)
    (case zz_c_CHILD => first | k_is | rfl)
    (case zz_c_BEHIND => first | k_is | rfl)
    (case zz_aCP => first | k_is | rfl)
    (case zz_pgCP => first | k_is | rfl)
    (case zz_hdCP => first | k_is | rfl)
    (case zz_poCP => first | k_is | rfl)
    (case zz_saCP => first | k_is | rfl)
    (case zz_mkCP => first | k_is | rfl)
    (case zz_kcCP => first | k_is | rfl)
    (case zz_nCP_tests => first | k_is | rfl)
    (case zz_nCP_links => first | k_is | rfl)
    (case zz_nCP_text => first | k_is | rfl)
    (case zz_aCL => first | k_is | rfl)
    (case zz_aCV => first | k_is | rfl)
    (case zz_aCN => first | k_is | rfl)
    (case zz_aC => first | k_is | rfl)
    (case zz_x_C => first | k_is | rfl)
    (case zz_xb_C => decide +kernel)
    (case zz_sa_C => first | k_is | rfl)
    (case zz_xe_C => first | k_is | rfl)
    (case zz_xt_C => first | k_is | rfl)
    (case zz_xk_C => first | k_is | rfl)
    (case zz_f_C_text => first | k_is | rfl)
    (case zz_hg_C => first | k_is | rfl)
    (case zz_hk_C => first | k_is | rfl)
    (case zz_hd_C => first | k_is | rfl)
    (case zz_ha_C => first | k_is | rfl)
    (case zz_hn_C => first | k_is | rfl)
    (case zz_ht_C => first | k_is | rfl)
    (case zz_hm_C => first | k_is | rfl)
    (case zz_ls_C => first | k_is | rfl)
    (case zz_q1_C => first | k_is | rfl)
    (case zz_q2_C => first | k_is | rfl)
    (case zz_q3_C => first | k_is | rfl)
    (case zz_q4_C => first | k_is | rfl)
    (case zz_ih_ha => first | k_is | rfl)
    (case zz_ih_hn => first | k_is | rfl)
    (case zz_ih_ht => first | k_is | rfl)
    (case zz_ih_hm => first | k_is | rfl)
    (case zz_ih_ks => first | k_is | rfl)
    (case zz_ih_hk => first | k_is | rfl)
    (case zz_ih_ni => first | k_is | rfl)
    (case zz_a1 => first | k_is | rfl)
    (case zz_l1 => first | k_is | rfl)
    (case zz_c1 => first | k_is | rfl)
    (case zz_k1 => first | k_is | rfl)
    (case zz_a2 => first | k_is | rfl)
    (case zz_l2 => first | k_is | rfl)
    (case zz_c2 => first | k_is | rfl)
    (case zz_k2 => first | k_is | rfl)
    (case zz_a3 => first | k_is | rfl)
    (case zz_l3 => first | k_is | rfl)
    (case zz_c3 => first | k_is | rfl)
    (case zz_k3 => first | k_is | rfl)
    (case zz_a4 => first | k_is | rfl)
    (case zz_l4 => first | k_is | rfl)
    (case zz_c4 => first | k_is | rfl)
    (case zz_k4 => first | k_is | rfl)
    (case zz_a5 => first | k_is | rfl)
    (case zz_l5 => first | k_is | rfl)
    (case zz_c5 => first | k_is | rfl)
    (case zz_k5 => first | k_is | rfl)
    (case zz_a6 => first | k_is | rfl)
    (case zz_l6 => first | k_is | rfl)
    (case zz_c6 => first | k_is | rfl)
    (case zz_k6 => first | k_is | rfl)
    (case zz_a7 => first | k_is | rfl)
    (case zz_l7 => first | k_is | rfl)
    (case zz_c7 => first | k_is | rfl)
    (case zz_k7 => first | k_is | rfl)
    (case zz_a8 => first | k_is | rfl)
    (case zz_l8 => first | k_is | rfl)
    (case zz_c8 => first | k_is | rfl)
    (case zz_k8 => first | k_is | rfl)
    (case zz_a9 => first | k_is | rfl)
    (case zz_l9 => first | k_is | rfl)
    (case zz_c9 => first | k_is | rfl)
    (case zz_k9 => first | k_is | rfl)
    (case zz_a10 => first | k_is | rfl)
    (case zz_l10 => first | k_is | rfl)
    (case zz_c10 => first | k_is | rfl)
    (case zz_k10 => first | k_is | rfl)
    (case zz_a11 => first | k_is | rfl)
    (case zz_l11 => first | k_is | rfl)
    (case zz_c11 => first | k_is | rfl)
    (case zz_k11 => first | k_is | rfl)
    (case zz_a12 => first | k_is | rfl)
    (case zz_l12 => first | k_is | rfl)
    (case zz_c12 => first | k_is | rfl)
    (case zz_k12 => first | k_is | rfl)
    (case zz_a13 => first | k_is | rfl)
    (case zz_l13 => first | k_is | rfl)
    (case zz_c13 => first | k_is | rfl)
    (case zz_k13 => first | k_is | rfl)
    (case zz_a14 => first | k_is | rfl)
    (case zz_l14 => first | k_is | rfl)
    (case zz_c14 => first | k_is | rfl)
    (case zz_k14 => first | k_is | rfl)
    (case zz_a15 => first | k_is | rfl)
    (case zz_l15 => first | k_is | rfl)
    (case zz_c15 => first | k_is | rfl)
    (case zz_k15 => first | k_is | rfl)
    (case zz_a16 => first | k_is | rfl)
    (case zz_l16 => first | k_is | rfl)
    (case zz_c16 => first | k_is | rfl)
    (case zz_k16 => first | k_is | rfl)
    (case zz_a17 => first | k_is | rfl)
    (case zz_l17 => first | k_is | rfl)
    (case zz_c17 => first | k_is | rfl)
    (case zz_k17 => first | k_is | rfl)
    (case zz_a18 => first | k_is | rfl)
    (case zz_i18 => first | k_is | rfl)
    (case zz_l18 => first | k_is | rfl)
    (case zz_c18 => first | k_is | rfl)
    (case zz_k18 => first | k_is | rfl)
    (case zz_a19 => first | k_is | rfl)
    (case zz_pg19 => first | k_is | rfl)
    (case zz_pt19 => first | k_is | rfl)
    (case zz_pr19 => first | k_is | rfl)
    (case zz_l19 => first | k_is | rfl)
    (case zz_c19 => first | k_is | rfl)
    (case zz_k19 => first | k_is | rfl)
    (case zz_a20 => first | k_is | rfl)
    (case zz_pg20 => first | k_is | rfl)
    (case zz_pt20 => first | k_is | rfl)
    (case zz_pr20 => first | k_is | rfl)
    (case zz_l20 => first | k_is | rfl)
    (case zz_c20 => first | k_is | rfl)
    (case zz_k20 => first | k_is | rfl)
    (case zz_a21 => first | k_is | rfl)
    (case zz_i21 => first | k_is | rfl)
    (case zz_x21 => first | k_is | rfl)
    (case zz_l21 => first | k_is | rfl)
    (case zz_c21 => first | k_is | rfl)
    (case zz_k21 => first | k_is | rfl)
    (case zz_a22 => first | k_is | rfl)
    (case zz_i22 => first | k_is | rfl)
    (case zz_l22 => first | k_is | rfl)
    (case zz_c22 => first | k_is | rfl)
    (case zz_k22 => first | k_is | rfl)
    (case zz_a23 => first | k_is | rfl)
    (case zz_i23 => first | k_is | rfl)
    (case zz_l23 => first | k_is | rfl)
    (case zz_c23 => first | k_is | rfl)
    (case zz_k23 => first | k_is | rfl)
    (case zz_a24 => first | k_is | rfl)
    (case zz_l24 => first | k_is | rfl)
    (case zz_c24 => first | k_is | rfl)
    (case zz_k24 => first | k_is | rfl)
    (case zz_t24 => first | k_is | rfl)
    (case zz_z0 => first | k_is | rfl)
    (case zz_z1 => first | k_is | rfl)
    (case zz_z2 => first | k_is | rfl)
    (case zz_z3 => first | k_is | rfl)
    (case zz_z4 => first | k_is | rfl)
    (case zz_z5 => first | k_is | rfl)
    (case zz_z6 => first | k_is | rfl)
    (case zz_z7 => first | k_is | rfl)

