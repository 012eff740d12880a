import PyProof.Rows.All
import Wide.All
import OpenK.AllK
import Wide.FinOn
import HandS.ForMost
import HandS.OwnIter
import HandS.IterNext
import HandS.IterVal
import HandS.Call
import HandS.ExcOwn
import KE.KIsAll
import KE.KTryMore
import HandS.More
import HandS.OwnEq
import HandS.SlotsOwn
import HandS.Property
import KE.KCallOwn
import HandS.Words
import HandS.WordsExc
import HandS.TupLe
import HandS.ForExc
import HandS.ExcInit
import HandS.ExcIs
import HandS.ExcField
import HandS.IsInst
import HandS.TupAny
import HandS.Walk
import HandS.NoneIn
import HandS.Evl
import HandS.FStr
import HandS.Text
import HandS.StrMore
import HandS.Deep
import HandS.Codes
import HandS.Conv
import HandS.Star
import HandS.Wide
import HandS.RaiseMore
import PySem.Challenge.RW_laidforall_k11_ranks
set_option Elab.async false
set_option linter.all false
set_option maxRecDepth 100000
set_option maxHeartbeats 2000000
namespace RO
open PySem PySem.Spec PyProof.Rows L2 ItX
/-! ### a def whose promise knows how large the heap was -/
structure FnN (P : Program) (w : World) (K : PySem.W.Frag) (mg : Str → Option Value) (base : Heap) (CX : CXT) (k : Nat) (f : Addr) (fd : FuncData) (ps : List Str) (sp : Nat → Sp) : Prop where
  len : ∀ n vs H Q E, sp n vs H Q E → vs.length = ps.length
  run : ∀ (A : Around) (outer : List Env) (s : Shared) (H : Hp) (args : Args) (us : List Value) (vs : List V) (Q : VK) (E : XK), Room k A → Env0 P w K mg base A outer s H → BindsTo s fd args (ps.zip us) → Vals vs us → sp s.heap.objs.size vs H Q E →
    codeAny (model P w) A (.call (.ref f) args) (CR CX outer P w H s Q E) s
theorem fn_ofN {CX : CXT} {P : Program} {w : World} {K : PySem.W.Frag} {mg : Str → Option Value} {base : Heap} {k : Nat} {f : Addr} {name qual : Str} {params : Arguments} {body : List Stmt} {scope : Scope} {dV kV doc pm cdv ct oc : Value} {an od : Option Addr}
    {osl : Array (Option Value)} {N ps : List Str} {sp : Nat → Sp} (lk : K.lookup f = some ⟨oc, od, .func (PySem.W.fnOf name qual params body scope dV kV doc pm an cdv ct), osl⟩) (hcd : PySem.W.codeIn K cdv qual = true) (S : FnScope N ps scope)
    (len : ∀ n vs H Q E, sp n vs H Q E → vs.length = ps.length)
    (hbody : ∀ (A : Around) (outer : List Env) (s : Shared) (H : Hp) (vs : List V) (Q : VK) (E : XK), Room k (A.deeper (envOfC qual scope s.heap.objs.size f cdv)) → sp s.heap.objs.size vs H Q E →
      ∃ t, PSs (cxOf CX P w K mg base N qual scope f cdv A outer s H E) body t ∧ t { nx := fun _ H' => Q .non H', rt := Q } (start N vs) H) :
    FnN P w K mg base CX (k + 1) f (PySem.W.fnOf name qual params body scope dV kV doc pm an cdv ct) ps sp := by
  refine ⟨len, fun A outer s H args us vs Q E hr e0 hb r hsp => ?_⟩
  have hl := len _ _ _ _ _ hsp
  have KX : K.In s.heap := e0.mod.kin.keeps fun b o e => (e0.bs b o e).1
  have lim : s.heap.NoLimit := e0.mod.nolimit.keeps fun b o e => (e0.bs b o e).1
  have hkind : ∀ y ∈ ps.zip us, scope.names.lookup y.1 = some .local ∨ (scope.names.lookup y.1 = some .cell ∧ ((cellsFrom (s.heap.objs.size + 1) scope.names []).lookup y.1).isSome = true) := fun ⟨n, v⟩ hy => by
    rcases S.par n (List.of_mem_zip hy).1 with q | q
    · exact .inl q
    · exact .inr ⟨q, PySem.W.cellsFrom_some _ _ _ (.inl q)⟩
  refine codeAny_call_function hr.depth (KX _ _ lk) rfl S.co S.gen rfl (PySem.W.codeRec_of KX hcd) (hb _ _ _ _ ?_)
  refine wpAny_newFunctionEnv_cells S.kind hkind fun env he s1 x => ?_
  subst he
  refine ⟨lim.keeps x.toInCall.keep, codeAny_func ?_⟩
  obtain ⟨t, ht, hq⟩ := hbody A outer s H vs Q E (hr.deeper _) hsp
  have I : Inv (cxOf CX P w K mg base N qual scope f cdv A outer s H E) [] (start N vs) H s1 := inv_start S hr.hd e0 hl r x
  refine wpAny_mono (ht.run [] s1 (start N vs) H _ I hq) (fun fl s' hs => ?_) fun e s' hs => hs
  have fin : ∀ {σ' : L2.St} {H' : Hp} {v : V} {u : Value}, Inv (cxOf CX P w K mg base N qual scope f cdv A outer s H E) [] σ' H' s' → RelV v u → Q v H' → CE outer P w H s Q u s' :=
    fun {σ' H' v u} J rv q => ⟨v, H', J.os, J.bare, J.base, J.hok, rv, q⟩
  cases fl with
  | ret u =>
    obtain ⟨v, σ', H', J, rv, q⟩ := hs
    exact fin J rv q
  | next =>
    obtain ⟨σ', H', J, q⟩ := hs
    exact fin (v := V.non) (u := Value.none) J rfl q
  | brk =>
    obtain ⟨_, _, _, q⟩ := hs
    exact False.elim q
  | cont =>
    obtain ⟨_, _, _, q⟩ := hs
    exact False.elim q
section
variable {P : Program} {w : World} {K : PySem.W.Frag} {mg : Str → Option Value} {base : Heap}
theorem fun_okN {x qual : Str} {st : Stmt} {f : Addr} {fd : FuncData} {N ps : List Str} {k : Nat} {sp : Nat → Sp} (F : Fun K x qual st f fd) (S : FnScope N ps (defScope st)) (len : ∀ n vs H Q E, sp n vs H Q E → vs.length = ps.length)
    (hbody : ∀ (cdv : Value) (A : Around) (outer : List Env) (s : Shared) (H : Hp) (vs : List V) (Q : VK) (E : XK), Room k (A.deeper (envOfC qual (defScope st) s.heap.objs.size f cdv)) → sp s.heap.objs.size vs H Q E →
      ∃ t, PSs (cxOf CX0 P w K mg base N qual (defScope st) f cdv A outer s H E).nox (defBody st) t ∧ t { nx := fun _ H' => Q .non H', rt := Q } (start N vs) H) : FnN P w K mg base CX0 (k + 1) f fd ps sp := by
  obtain ⟨oc, od, kV, doc, pm, an, cdv, ct, osl, rfl, lk, hcd⟩ := F.ex
  refine fn_ofN lk hcd S len fun A outer s H vs Q E hr hsp => ?_
  obtain ⟨t, h, q⟩ := hbody cdv A outer s H vs Q E hr hsp
  exact ⟨t, h.nox, q⟩
end
/-- __iter__ hands back a new iterator over the list in a field -/
def spIt (C : Addr) (fld : Str) (n : Nat) : Sp := fun vs H Q _ => ∃ (p dx l : Addr) (fs : List (Str × V)), vs = [.ref p] ∧ H p = some (.ins C dx fs) ∧ fs.lookup fld = some (.ref l) ∧ (∃ zs, H l = some (.lst zs)) ∧ ∀ it, H it = none → n ≤ it → Q (.ref it) (upd H it (ItO l it 0))
/-- what a class with such an __iter__ has -/
structure ItrC (X : Cx) (C fi : Addr) (fdI : FuncData) (fld : Str) (k : Nat) : Prop where
  it : PySem.W.findIn X.K (.ref C) "__iter__" = some (some (.ref fi))
  itF : PySem.W.isFn X.K (.ref fi) = true
  fn : FnN X.prog X.w X.K X.mg X.base CX0 k fi fdI ["self"] (spIt C fld)
  bi : Binds X.K fdI ["self"] []
section
variable {X : Cx} {pins : List (Addr × Obj)} {σ : L2.St} {H : Hp} {s : Shared} {A1 : Around} {C fi fl p dx l : Addr} {fdI fdL : FuncData} {fld : Str} {k : Nat} {fs : List (Str × V)} {zs : List V}
theorem env_sub (I : Inv X pins σ H s) (sb : Sub X k A1) : Env0 X.prog X.w X.K X.mg X.base A1 X.stack s H := by
  have e := I.env0
  exact ⟨by rw [sb.fr]; exact e.frames, e.mod, e.bs, e.bsz, e.funs, e.frf, e.hok, e.bare⟩
/-- iter(o) -/
theorem own_iter {Q : Value → Shared → Prop} (sb : Sub X k A1) (c : ItrC X C fi fdI fld k) (I : Inv X pins σ H s) (hp : H p = some (.ins C dx fs)) (hf : fs.lookup fld = some (.ref l)) (hl : H l = some (.lst zs))
    (h : ∀ it s', H it = none → s.heap.objs.size ≤ it → s'.heap.IsListIter it l 0 → s'.heap.get? it = some (GNX.itObj l 0) → Inv X pins σ H s' → Q (.ref it) s') : wpAny (model X.prog X.w) A1 (pyIter (.ref p)) Q X.xe s := by
  obtain ⟨mA, J, _⟩ := ins_get I.hok hp
  obtain ⟨od, J, _⟩ := J.look
  obtain ⟨m0, hF⟩ := I.fr
  refine PySem.W.owit_iter hF I.ok.mod.kin J c.it c.itF ?_
  have hsp : spIt C fld s.heap.objs.size [.ref p] H (fun v H' => ∃ it, v = .ref it ∧ H it = none ∧ s.heap.objs.size ≤ it ∧ H' = upd H it (ItO l it 0)) E0 := ⟨p, dx, l, fs, rfl, hp, hf, ⟨zs, hl⟩, fun it h1 h2 => ⟨it, rfl, h1, h2, rfl⟩⟩
  have r2 : Vals [V.ref p] [Value.ref p] := .cons rfl .nil
  refine wpAny_call (codeAny_mono (c.fn.run A1 X.stack s H ⟨[.ref p], []⟩ [.ref p] [.ref p] _ E0 sb.room (env_sub I sb) (by
    have := c.bi s [.ref p] I.kIn rfl
    simpa using this) r2 hsp) fun r s' hq => ?_)
  cases r with
  | error e => exact absurd hq (fun z => z.elim)
  | ok fl =>
    cases fl with
    | next => exact False.elim hq
    | brk => exact False.elim hq
    | cont => exact False.elim hq
    | ret u =>
      obtain ⟨v, H', I', rv, it, rfl, hn, hsz, rfl⟩ := I.after hq
      cases rv
      have eo := itO_get I' upd_same
      have I2 := inv_drop I' (show upd H it (ItO l it 0) it = some (.ext _) from upd_same)
      rw [dropH_upd hn] at I2
      have hT : s'.TypeIs (.ref it) "list_iterator" := ⟨_, eo, rfl⟩
      unfold PySem.W.OwitIt
      exact wpAny_specialOf (name := Str.ofString "__next__") hT slot_listiter_next.lookup (h it s' hn hsz ⟨_, eo, rfl, rfl⟩ eo I2)
/-- len(o) by an own __len__ that only tells -/
theorem own_len {Q : Value → Shared → Prop} {E' : Value → Shared → Prop} {sp : Sp} {m : Nat} (sb : Sub X k A1.in1) (hlen : PySem.W.findIn X.K (.ref C) "__len__" = some (some (.ref fl))) (hf : PySem.W.typeIn X.K (.ref fl) = some (.type "function")) (F : FnOk X.prog X.w X.K X.mg X.base CX0 k fl fdL ["self"] sp) (b : Binds X.K fdL ["self"] [])
    (I : Inv X pins σ H s) (hp : H p = some (.ins C dx fs)) (hm : m ≤ sizeLine) (hsp : sp [.ref p] H (fun v H' => v = .int (m : Int) ∧ H' = H) E0)
    (h : ∀ t s', Inv X pins σ H s' → Q (.int (m : Int) t) s') : wpAny (model X.prog X.w) A1 (call (.builtin "len") [.ref p]) Q E' s := by
  obtain ⟨mA, J, _⟩ := ins_get I.hok hp
  obtain ⟨od, J, _⟩ := J.look
  refine Calls.call_function_entry kind_len plain_len entry_len (args_len1 _) ?_
  unfold Builtin.«len»
  refine wpAny_bind (m := oneArg "len" _) (wpAny_pure ?_)
  have r2 : Vals [V.ref p] [Value.ref p] := .cons rfl .nil
  refine wpAny_bind (m := callSpecial? (.ref p) (PySem.Str.ofString "__len__")) (PySem.W.special_fn I.kIn J hlen hf ?_)
  refine wpAny_call (codeAny_mono (F.run A1.in1 X.stack s H ⟨[.ref p], []⟩ [.ref p] [.ref p] _ E0 sb.room (env_sub I sb) (by
    have := b s [.ref p] I.kIn rfl
    simpa using this) r2 hsp) fun r s' hq => ?_)
  cases r with
  | error e => exact absurd hq (fun z => z.elim)
  | ok fl =>
    cases fl with
    | next => exact False.elim hq
    | brk => exact False.elim hq
    | cont => exact False.elim hq
    | ret u =>
      obtain ⟨v, H', I', rv, rfl, rfl⟩ := I.after hq
      obtain ⟨t, rfl⟩ := rv
      have hs : sizeLine = 16777216 := sizeLine_eq
      refine wpAny_bind (wpAny_holding (wpAny_pure ?_))
      refine wpAny_bind (wpAny_letGo ?_)
      show wpAny _ _ (if ((m : Nat) : Int) < 0 then _ else _) _ _ _
      rw [if_neg (by omega)]
      show wpAny _ _ (if ((m : Nat) : Int) ≥ 2 ^ 63 then _ else _) _ _ _
      rw [if_neg (by omega)]
      exact wpAny_bind (wpAny_mkInt (wpAny_pure ⟨_, rfl, h _ _ (I'.tok _)⟩))
end
section
variable {X : Cx} {C fi fl : Addr} {fdI fdL : FuncData} {fld : Str} {k : Nat}
/-! ### for x in o -/
def iOwnL (C : Addr) (fld : Str) (K : PySem.W.Frag) (te : TE) : TI := fun σ H R => te σ H fun v H1 => ∃ (p dx l : Addr) (fs : List (Str × V)) (zs : List V), v = .ref p ∧ H1 p = some (.ins C dx fs) ∧ fs.lookup fld = some (.ref l) ∧ H1 l = some (.lst zs) ∧ R (Itl K l) H1
theorem pi_ownL {tg e : Expr} {te : TE} (c : ItrC X C fi fdI fld k) (hr : Room k X.A) (he : PE X e te) : PI X tg e (iOwnL C fld X.K te) := by
  refine ⟨fun pins s σ H R I h => ?_⟩
  refine thn (he.run pins s σ H _ I h) fun v s1 ⟨y, H1, I1, ry, p, dx, l, fs, zs, ey, hp, hf, hl, q⟩ => ?_
  subst ey
  cases ry
  refine own_iter (⟨hr, rfl⟩ : Sub X k X.A) c I1 hp hf hl fun it s' hn hsz hli eo I' => ?_
  exact ⟨it, [it], _, _, H1, rfl, I', turn_list l it, hli, fun b hb => by rw [List.mem_singleton.mp hb]; exact I1.fpOk hsz hn, q⟩
/-! ### len(o) -/
theorem call_lenOwn {sp : Sp} (hlen : PySem.W.findIn X.K (.ref C) "__len__" = some (some (.ref fl))) (hf : PySem.W.typeIn X.K (.ref fl) = some (.type "function")) (F : FnOk X.prog X.w X.K X.mg X.base CX0 k fl fdL ["self"] sp) (b : Binds X.K fdL ["self"] []) (hr : Room (k + 1) X.A) :
    CallR X (.builtin "len") (fun xs H Q => ∃ (p dx : Addr) (fs : List (Str × V)) (m : Nat), xs = [.ref p] ∧ H p = some (.ins C dx fs) ∧ m ≤ sizeLine ∧ sp [.ref p] H (fun v H' => v = .int (m : Int) ∧ H' = H) E0 ∧ Q (.int (m : Int)) H) := by
  intro pins s σ H xs us Q I r h
  obtain ⟨p, dx, fs, m, rfl, hp, hm, hsp, q⟩ := h
  obtain ⟨u, rfl, ru⟩ := vals1 r
  obtain rfl : u = Value.ref p := ru
  exact own_len (Sub.in1 (⟨hr, rfl⟩ : Sub X (k + 1) X.A)) hlen hf F b I hp hm hsp fun t s' I' => ⟨.int (m : Int), H, I', ⟨_, rfl⟩, q⟩
end
end RO

set_option maxRecDepth 100000
set_option maxHeartbeats 2000000
namespace R6
open PySem PySem.Spec PyProof.Rows L2
/-! ### an own class made inside a try: __init__ may raise -/
section
variable {X : Cx} {CX : CXT} {k : Nat} {f C : Addr} {fd : FuncData} {ps : List Str} {ds : List Value} {dvs : List V} {sp : Sp} {E : L2.St → XK} {x : Str} {p pos : Pos} {e : Expr} {es : List Expr} {t : TA}
theorem run_makeS {pins : List (Addr × Obj)} {σ : L2.St} {H : Hp} {s : Shared} {Q : VK} {us : List Value} {vs : List V} (M : Mk X.K C f) (F : FnOk X.prog X.w X.K X.mg X.base CX k f fd ps sp) (hr : Room (k + 1) X.A) (hb : Binds X.K fd ps ds) (hd : Vals dvs ds)
    (hx : PassesAt CX X σ (E σ)) (I : Inv X pins σ H s) (r : Vals vs us)
    (h : ∀ x dx, H x = none → H dx = none → dx ≠ x → sp (.ref x :: (vs ++ dvs)) (upd (upd H dx (.own x)) x (.ins C dx [])) (fun v H2 => v = .non ∧ Q (.ref x) H2) (E σ)) :
    wpAny (model X.prog X.w) X.A (call (.ref C) us) (EP X pins σ Q) X.xe s := by
  have hq := h (s.heap.objs.size + 1) s.heap.objs.size (I.hok.fresh (Nat.le_succ _)) (I.hok.fresh (Nat.le_refl _)) (Nat.ne_of_lt (Nat.lt_succ_self _))
  have I2 := Inv.made (C := C) I
  have r2 : Vals (V.ref (s.heap.objs.size + 1) :: (vs ++ dvs)) (Value.ref (s.heap.objs.size + 1) :: (us ++ ds)) := .cons rfl (r.append hd)
  have hl : (Value.ref (s.heap.objs.size + 1) :: us ++ ds).length = ps.length := by
    have e := r2.length
    rw [F.len _ _ _ _ hq] at e
    exact e.symm
  refine wpAny_call (make_map (f := f) I.kIn M.makes M.init (beq_iff_eq.mp M.fn) (codeAny_mono (F.run _ X.stack _ _ ⟨Value.ref (s.heap.objs.size + 1) :: us, []⟩ (Value.ref (s.heap.objs.size + 1) :: (us ++ ds)) _ _ (E σ) (hr.make C us [])
    (I2.env0.make C us []) (hb _ (Value.ref (s.heap.objs.size + 1) :: us) I2.kIn hl) r2 hq) fun r s' hq' => ?_))
  cases r with
  | error e => exact hx pins _ _ e s' I2 hq'
  | ok fl =>
    cases fl with
    | ret u =>
      obtain ⟨v, H', I3, rv, ev, q3⟩ := I2.after hq'
      subst ev
      exact ⟨rv, ⟨V.ref (s.heap.objs.size + 1), H', I3, rfl, q3⟩⟩
    | next => exact False.elim hq'
    | brk => exact False.elim hq'
    | cont => exact False.elim hq'
def tMakeS (C : Addr) (sp : Sp) (dvs : List V) (E : L2.St → XK) (t : TA) : TE := fun σ H Q => t σ H fun vs H1 => ∀ x dx, H1 x = none → H1 dx = none → dx ≠ x → sp (.ref x :: (vs ++ dvs)) (upd (upd H1 dx (.own x)) x (.ins C dx [])) (fun v H2 => v = .non ∧ Q (.ref x) H2) (E σ)
theorem pe_makeS (M : Mk X.K C f) (F : FnOk X.prog X.w X.K X.mg X.base CX k f fd ps sp) (hr : Room (k + 1) X.A) (hg : Gl X x) (hm : X.mg x = some (.ref C)) (hb : Binds X.K fd ps ds) (hd : Vals dvs ds) (hx : ∀ σ, PassesAt CX X σ (E σ))
    (ha : PA X (e :: es) t) (hdb : (x == ("__debug__" : Str)) = false := by decide) (he : starEach (e :: es) X.env = (false, eval e X.env) :: starEach es X.env := by rfl) (hpl : (backTo pos (starEach es X.env)).any (·.1) = false := by rfl) :
    PE X (.Call (.Name x p) (e :: es) [] pos) (tMakeS C sp dvs E t) := by
  refine ⟨fun pins s σ H Q I h => ?_⟩
  refine wpAny_Call_Name_kw (ld_glob I hg hm ?_ hdb)
  refine PySem.W.callWith_K (h₀ := X.base) I.ok.mod.kin M.kp (thn (ha.run pos pins s σ H _ I h) fun us s1 ⟨vs, H1, I1, r, q⟩ => ⟨I1.kIn, ?_⟩) he hpl
  exact run_makeS M F hr hb hd (hx σ) I1 r q
end
end R6

set_option maxRecDepth 100000
set_option maxHeartbeats 4000000
namespace R7
open PySem PySem.Spec PyProof.Rows L2
/-! ### str.__eq__ asked of an object -/
theorem str_eq_ref (z : Str) (t : Tok) (a : Addr) (o : Obj) (hd : o.data = .plain) :
    Meets (Builtin.«str.__eq__» ⟨[.str z t, .ref a], []⟩) (fun _ R s => s.heap.get? a = some o ∧ R (.ok (.ret .notImplemented)) s) :=
  .of_wp fun prog w A R s h => by
    obtain ⟨hp, g, d, tk, os⟩ := s
    obtain ⟨hl, h⟩ := h
    wp_walk using wpAny_load hl
    rw [hd]
    exact wpAny_pure (wpAny_bind (wpAny_rule (wpAny_pure ⟨_, rfl, h⟩)))
section
variable {prog : Program} {w : World} {A : Around} {E : Value → Shared → Prop} {s : Shared} {K : PySem.W.Frag} {x C f : Addr} {ox : Obj} {od : Option Obj}
theorem sub_str : PySem.W.subIn K (.type "str") (.ref C) = some false := by
  have e : fastBuiltinMro "str" = some [.type "str", .type "object"] := by decide +kernel
  show (fastBuiltinMro "str").map (·.contains (.ref C)) = some false
  rw [e]
  first
    | rfl
    | simp
/-- an instance compared with a text, its own == says NotImplemented -/
theorem rc_ni {z : Str} {t : Tok} {Q : Value → Shared → Prop} (hu : A.units < cLine) (X : K.In s.heap) (I : PySem.W.InstAt s.heap x ox C od) (hs : PySem.W.findIn K (.ref C) "__eq__" = some (some (.ref f))) (hf : PySem.W.isFn K (.ref f) = true)
    (hcall : wpAny (model prog w) A (call (.ref f) [.ref x, .str z t]) (fun v s' => v = .notImplemented ∧ (∃ o, s'.heap.get? x = some o ∧ o.data = .plain) ∧ Q (.bool false) s') E s) :
    wpAny (model prog w) A (richCompare .Eq (.ref x) (.str z t)) Q E s := by
  have one : wpAny (model prog w) A (tryCompare (.ref x) "__eq__" (.str z t)) (fun r s' => r = none ∧ (∃ o, s'.heap.get? x = some o ∧ o.data = .plain) ∧ Q (.bool false) s') E s := by
    unfold tryCompare
    refine wpAny_bind (PySem.W.ifBound_K X I hs hf (wpAny_mono hcall (fun v s' hv => ?_) fun _ _ e => e))
    obtain ⟨rfl, h1, h2⟩ := hv
    exact wpAny_pure ⟨rfl, h1, h2⟩
  have two : ∀ s', (∃ o, s'.heap.get? x = some o ∧ o.data = .plain) → Q (.bool false) s' → wpAny (model prog w) A (tryCompare (.str z t) "__eq__" (.ref x)) (fun r s2 => r = none ∧ Q (.bool false) s2) E s' := fun s' ⟨o, h1, h2⟩ hq =>
    wpAny_tryCompare_declines (typeIs_str s' z t) F.slot_str_eq (call_meets F.slot_str_eq (typeIs_str s' z t) F.entry_str_eq (F.args_str_eq_2 _ _) (str_eq_ref z t x o h2) ⟨h1, rfl, rfl, hq⟩)
  simp only [richCompare, cmpInfo_Eq, oneThing_ref]
  refine wpAny_holding (wpAny_bind (wpAny_cRoomFor hu ?_))
  refine wpAny_bind (I.type.here ?_)
  refine wpAny_bind (wpAny_typeOf (typeIs_str s z t) ?_)
  split
  · refine wpAny_bind ((PySem.W.looks_subIn X sub_str).here ?_)
    simp only [Bool.false_eq_true, if_false, Bool.not_false, if_true]
    refine wpAny_bind (m := tryCompare (.ref x) _ (.str z t)) (wpAny_mono one (fun r s1 y => ?_) fun _ _ e => e)
    obtain ⟨y1, y2, y3⟩ := y
    subst y1
    refine wpAny_bind (m := tryCompare (.str z t) _ (.ref x)) (wpAny_mono (two s1 y2 y3) (fun r s2 y => ?_) fun _ _ e => e)
    obtain ⟨y1, y4⟩ := y
    subst y1
    exact wpAny_bind (wpAny_rule (wpAny_bind (wpAny_of_eq (rfl : isSame (.ref x) (.str z t) = pure false) (wpAny_pure y4))))
  · rename_i q
    exact absurd (by simp) q
end
/-! ### a def that answers NotImplemented -/
/-- what it promises: R says of arguments, the heap and a wish for the heap behind -/
def NiOk (P : Program) (w : World) (K : PySem.W.Frag) (mg : Str → Option Value) (base : Heap) (k : Nat) (f : Addr) (R : List V → Hp → (Hp → Prop) → Prop) : Prop :=
  ∀ (A : Around) (outer : List Env) (s : Shared) (H : Hp) (us : List Value) (vs : List V) (Rh : Hp → Prop), Room k A → Env0 P w K mg base A outer s H → Vals vs us → R vs H Rh →
    codeAny (model P w) A (.call (.ref f) ⟨us, []⟩) (fun r s' => match r with | .ok (.ret u) => u = .notImplemented ∧ CE outer P w H s (fun _ H' => Rh H') .none s' | .ok _ => False | .error _ => False) s
theorem ni_of {P : Program} {w : World} {K : PySem.W.Frag} {mg : Str → Option Value} {base : Heap} {k : Nat} {f : Addr} {name qual : Str} {params : Arguments} {body rest : List Stmt} {scope : Scope} {dV kV doc pm cdv ct oc : Value} {an od : Option Addr}
    {osl : Array (Option Value)} {N ps : List Str} {c : Expr} {p1 p2 p3 : Pos} {R : List V → Hp → (Hp → Prop) → Prop} (lk : K.lookup f = some ⟨oc, od, .func (PySem.W.fnOf name qual params body scope dV kV doc pm an cdv ct), osl⟩) (hcd : PySem.W.codeIn K cdv qual = true) (S : FnScope N ps scope)
    (hbs : body = .If c [.Return (some (.Name "NotImplemented" p1)) p2] [] p3 :: rest) (hb : Binds K (PySem.W.fnOf name qual params body scope dV kV doc pm an cdv ct) ps []) (len : ∀ vs H Rh, R vs H Rh → vs.length = ps.length) (hm : mg "NotImplemented" = none)
    (hgl : ∀ (A : Around) (outer : List Env) (s : Shared) (H : Hp), Gl (cxOf CX0 P w K mg base N qual scope f cdv A outer s H E0).nox "NotImplemented")
    (hc : ∀ (A : Around) (outer : List Env) (s : Shared) (H : Hp) (vs : List V) (Rh : Hp → Prop), Room k (A.deeper (envOfC qual scope s.heap.objs.size f cdv)) → R vs H Rh → ∃ tt, PT (cxOf CX0 P w K mg base N qual scope f cdv A outer s H E0).nox c tt ∧ tt (start N vs) H (fun b H' => b = true ∧ Rh H')) :
    NiOk P w K mg base (k + 1) f R := by
  intro A outer s H us vs Rh hr e0 r hR
  have hl := len _ _ _ hR
  have KX : K.In s.heap := e0.mod.kin.keeps fun b o e => (e0.bs b o e).1
  have lim : s.heap.NoLimit := e0.mod.nolimit.keeps fun b o e => (e0.bs b o e).1
  have hul : us.length = ps.length := by rw [← r.length]; exact hl
  have hbd := hb s us KX (by rw [List.append_nil]; exact hul)
  rw [List.append_nil] at hbd
  have hkind : ∀ y ∈ ps.zip us, scope.names.lookup y.1 = some .local ∨ (scope.names.lookup y.1 = some .cell ∧ ((cellsFrom (s.heap.objs.size + 1) scope.names []).lookup y.1).isSome = true) := fun ⟨n, v⟩ hy => by
    rcases S.par n (List.of_mem_zip hy).1 with q | q
    · exact .inl q
    · exact .inr ⟨q, PySem.W.cellsFrom_some _ _ _ (.inl q)⟩
  refine codeAny_call_function hr.depth (KX _ _ lk) rfl S.co S.gen rfl (PySem.W.codeRec_of KX hcd) (hbd _ _ _ _ ?_)
  refine wpAny_newFunctionEnv_cells S.kind hkind fun env he s1 x => ?_
  subst he
  refine ⟨lim.keeps x.toInCall.keep, codeAny_func ?_⟩
  obtain ⟨tt, ht, hq⟩ := hc A outer s H vs Rh (hr.deeper _) hR
  have I : Inv (cxOf CX0 P w K mg base N qual scope f cdv A outer s H E0) [] (start N vs) H s1 := inv_start S hr.hd e0 hl r x
  rw [hbs]
  have J := I.wish (fun _ _ => False)
  have run : wpAny (model P w) (cxOf CX0 P w K mg base N qual scope f cdv A outer s H E0).nox.A (exec (.If c [.Return (some (.Name "NotImplemented" p1)) p2] [] p3) (cxOf CX0 P w K mg base N qual scope f cdv A outer s H E0).nox.env)
      (fun fl s' => fl = .ret .notImplemented ∧ CE outer P w H s (fun _ H' => Rh H') .none s') (fun _ _ => False) s1 := by
    refine wpAny_If (wpAny_mono (ht.run [] s1 (start N vs) H _ J hq) (fun b s2 hs => ?_) fun _ _ e => e)
    obtain ⟨H1, I1, rfl, q1⟩ := hs
    refine wpAny_execs_cons (wpAny_Return_some (ld_blt I1 (hgl A outer s H) hm (u := .notImplemented) (by decide +kernel) ⟨rfl, .non, H1, I1.os, I1.bare, I1.base, I1.hok, rfl, q1⟩))
  refine wpAny_execs_cons (wpAny_mono run (fun fl s' hs => ?_) fun e s' hs => hs.elim)
  obtain ⟨rfl, h⟩ := hs
  exact ⟨rfl, h⟩
section
variable {X : Cx} {C f : Addr} {k : Nat} {R : List V → Hp → (Hp → Prop) → Prop} {CX : CXT} {fd : FuncData} {ps : List Str} {sp : Sp} {E : XK}
/-- o == text, the own == says NotImplemented -/
def rEqNI (C : Addr) (R : List V → Hp → (Hp → Prop) → Prop) : R2 := fun x y H Q => ∃ a dx fs z, x = .ref a ∧ y = .str z ∧ H a = some (.ins C dx fs) ∧ R [.ref a, .str z] H (fun H' => (∃ dx fs, H' a = some (.ins C dx fs)) ∧ Q (.bl false) H')
theorem op_eqNI (hs : PySem.W.findIn X.K (.ref C) "__eq__" = some (some (.ref f))) (hf : PySem.W.isFn X.K (.ref f) = true) (G : NiOk X.prog X.w X.K X.mg X.base k f R) (hr : Room k X.A) : OpR X (compareOp .Eq) (rEqNI C R) := by
  intro pins s σ H x y v u Q I rx ry h
  obtain ⟨a, dx, fs, z, rfl, rfl, ha, hR⟩ := h
  cases (show v = Value.ref a from rx)
  obtain ⟨t, rfl⟩ := ry
  obtain ⟨mA, J, _⟩ := ins_get I.hok ha
  obtain ⟨od, J, _⟩ := J.look
  show wpAny (model X.prog X.w) X.A (richCompare .Eq (.ref a) (.str z t)) (EP X pins σ Q) X.xe s
  refine rc_ni hr.units0 I.kIn J hs hf (wpAny_call (codeAny_mono (G X.A X.stack s H [.ref a, .str z t] [.ref a, .str z] _ hr I.env0 (.cons rfl (.cons ⟨t, rfl⟩ .nil)) hR) fun r s' hq => ?_))
  cases r with
  | error e => exact False.elim hq
  | ok fl =>
    cases fl with
    | next => exact False.elim hq
    | brk => exact False.elim hq
    | cont => exact False.elim hq
    | ret u =>
      obtain ⟨hu, hq⟩ := hq
      obtain ⟨v, H', I', _, ⟨dx', fs', ha'⟩, q⟩ := I.after hq
      obtain ⟨mA', J', _⟩ := ins_get I'.hok ha'
      obtain ⟨od', J', _⟩ := J'.look
      exact ⟨hu, ⟨_, J'.at_, rfl⟩, .bl false, H', I', rfl, q⟩
/-- o == p, both of the class -/
def rEqOwn (C : Addr) (sp : Sp) (E : XK) : R2 := fun x y H Q => ∃ a dx fs b dy gs, x = .ref a ∧ y = .ref b ∧ H a = some (.ins C dx fs) ∧ H b = some (.ins C dy gs) ∧ sp [.ref a, .ref b] H (fun v H' => ∃ r, v = .bl r ∧ Q (.bl r) H') E
theorem op_eqOwn (F : FnOk X.prog X.w X.K X.mg X.base CX k f fd ps sp) (hs : PySem.W.findIn X.K (.ref C) "__eq__" = some (some (.ref f))) (hf : PySem.W.isFn X.K (.ref f) = true) (hb : Binds X.K fd ps []) (hr : Room k X.A) (hx : Passes CX X E) : OpR X (compareOp .Eq) (rEqOwn C sp E) := by
  intro pins s σ H x y v u Q I rx ry h
  obtain ⟨a, dx, fs, b, dy, gs, rfl, rfl, ha, hb', hsp⟩ := h
  cases (show v = Value.ref a from rx)
  cases (show u = Value.ref b from ry)
  obtain ⟨mA, J, _⟩ := ins_get I.hok ha
  obtain ⟨mB, J', _⟩ := ins_get I.hok hb'
  obtain ⟨od, J, _⟩ := J.look
  obtain ⟨od', J', _⟩ := J'.look
  obtain ⟨m, hF⟩ := I.fr
  show wpAny (model X.prog X.w) X.A (richCompare .Eq (.ref a) (.ref b)) (EP X pins σ Q) X.xe s
  refine PySem.W.cmp_K (op := .Eq) (tb := .ref C) hr.units0 hF I.ok.mod.kin J J'.type (by simp [PySem.W.notFirst]) hs hf ?_
  have hl := F.len _ _ _ _ hsp
  have r2 : Vals [V.ref a, V.ref b] [Value.ref a, Value.ref b] := .cons rfl (.cons rfl .nil)
  refine wpAny_call (codeAny_mono (F.run X.A X.stack s H ⟨[.ref a, .ref b], []⟩ [.ref a, .ref b] [.ref a, .ref b] _ E hr I.env0 (by
    have := hb s [.ref a, .ref b] I.kIn (by simpa using hl)
    simpa using this) r2 hsp) fun r s' hq => ?_)
  cases r with
  | error e => exact hx pins σ H s e s' I hq
  | ok fl =>
    cases fl with
    | ret w =>
      obtain ⟨z, H', I', rz, r, ez, q⟩ := I.after hq
      subst ez
      cases rz
      exact ⟨.bl r, H', I', rfl, q⟩
    | next => exact False.elim hq
    | brk => exact False.elim hq
    | cont => exact False.elim hq
/-- str(o) by an own __str__ -/
def rStrOwn (C : Addr) (sp : Sp) (E : XK) : List V → Hp → VK → Prop := fun xs H Q => ∃ a dx fs, xs = [V.ref a] ∧ H a = some (.ins C dx fs) ∧ sp [.ref a] H (fun v H' => ∃ z, v = .str z ∧ Q (.str z) H') E
theorem call_strOwn (hs : PySem.W.findIn X.K (.ref C) "__str__" = some (some (.ref f))) (hf : PySem.W.isFn X.K (.ref f) = true) (F : FnR X.prog X.w X.K X.mg X.base CX k f sp) (hr : Room (k + 2) X.A) (hx : Passes CX X E) : CallR X (.type "str") (rStrOwn C sp E) := by
  intro pins s σ H xs us Q I r h
  obtain ⟨a, dx, fs, rfl, ha, q⟩ := h
  obtain ⟨u, rfl, ru⟩ := r.one
  cases (show u = Value.ref a from ru)
  obtain ⟨mA, J, _⟩ := ins_get I.hok ha
  obtain ⟨od, J, _⟩ := J.look
  have hr2 : Room k X.A.in1.in1 := (show Room (k + 1) X.A.in1 from Room.in1 hr).in1
  refine PySem.W.kso_call hr2.units0 I.kIn J hs hf (wpAny_mono (wpAny_call (SlX.run_at (us := [.ref a]) (ws := [.ref a]) F hr2 I.env0.in1.in1 hx I (.cons rfl .nil) q)) (fun w s' z => ?_) fun _ _ x => x)
  obtain ⟨z', H', I', rz, i, ei, qz⟩ := z
  subst ei
  obtain ⟨t, e⟩ := (show ∃ t, w = Value.str i t from rz)
  cases e
  exact ⟨.str i, H', I', ⟨t, rfl⟩, qz⟩
end
end R7

set_option maxRecDepth 100000
set_option maxHeartbeats 4000000
namespace R8
open PySem PySem.Spec PyProof.Rows L2
/-! ### tuple.__eq__, tuple.__ne__ asked of an instance -/
section
variable {K : PySem.W.Frag} {C : Addr}
theorem not_tup {prog : Program} {w : World} {A : Around} {E : Value → Shared → Prop} {s : Shared} {x : Addr} {o : Obj} (ho : s.heap.get? x = some o) (hc : o.cls = .ref C) (X : K.In s.heap) (e : PySem.W.subIn K (.ref C) (.type "tuple") = some false) {Q : Bool → Shared → Prop} (hq : Q false s) :
    wpAny (model prog w) A (isInstance (.ref x) (.type "tuple")) Q E s := by
  simp only [isInstance]
  refine wpAny_bind (wpAny_typeOf_ref (o := o) ho ?_)
  rw [hc]
  exact (PySem.W.looks_subIn (M := model prog w) X e).here hq
theorem tup_eq_ref (l x : Addr) (o : Obj) (hc : o.cls = .ref C) (e : PySem.W.subIn K (.ref C) (.type "tuple") = some false) :
    Meets (Builtin.«tuple.__eq__» ⟨[.ref l, .ref x], []⟩) (fun _ R s => s.heap.get? x = some o ∧ K.In s.heap ∧ R (.ok (.ret .notImplemented)) s) :=
  .of_wp fun prog w A R s h => by
    obtain ⟨hl, X, h⟩ := h
    have hI : ∀ {Q : Bool → Shared → Prop}, Q false s → wpAny (model prog w) A.in1 (isInstance (.ref x) (.type "tuple")) Q (fun e s' => R (.error e) s') s := fun hq => not_tup hl hc X e hq
    wp_walk using hI
    exact ⟨_, rfl, h⟩
theorem tup_ne_ref (l x : Addr) (o : Obj) (hc : o.cls = .ref C) (e : PySem.W.subIn K (.ref C) (.type "tuple") = some false) :
    Meets (Builtin.«tuple.__ne__» ⟨[.ref l, .ref x], []⟩) (fun _ R s => s.heap.get? x = some o ∧ K.In s.heap ∧ R (.ok (.ret .notImplemented)) s) :=
  .of_wp fun prog w A R s h => by
    obtain ⟨hl, X, h⟩ := h
    have hI : ∀ {Q : Bool → Shared → Prop}, Q false s → wpAny (model prog w) A.in1 (isInstance (.ref x) (.type "tuple")) Q (fun e s' => R (.error e) s') s := fun hq => not_tup hl hc X e hq
    wp_walk using hI
    exact ⟨_, rfl, h⟩
end
section
variable {prog : Program} {w : World} {A : Around} {E : Value → Shared → Prop} {s : Shared} {K : PySem.W.Frag} {x C f l : Addr} {ox : Obj} {od : Option Obj}
theorem sub_tup : PySem.W.subIn K (.type "tuple") (.ref C) = some false := by
  have e : fastBuiltinMro "tuple" = some [.type "tuple", .type "object"] := by decide +kernel
  show (fastBuiltinMro "tuple").map (·.contains (.ref C)) = some false
  rw [e]
  first
    | rfl
    | simp
theorem same_no {Q : Bool → Shared → Prop} {o o2 : Obj} (h1 : s.heap.get? x = some o) (hc : o.cls = .ref C) (h2 : s.heap.get? l = some o2) (hc2 : o2.cls = .type "tuple") (hq : Q false s) : wpAny (model prog w) A (isSame (.ref x) (.ref l)) Q E s := by
  have hne : (x == l) = false := by
    refine beq_eq_false_iff_ne.mpr fun e => ?_
    subst e
    rw [h1] at h2; cases h2
    rw [hc] at hc2; cases hc2
  unfold isSame
  simp only [hne, Bool.false_eq_true, if_false]
  refine wpAny_bind (wpAny_load h1 (wpAny_bind (wpAny_load h2 ?_)))
  rw [hc, hc2]
  exact wpAny_pure hq
/-- what stands behind the own def: the instance, the tuple -/
def Behind (K : PySem.W.Frag) (x l C : Addr) (s' : Shared) : Prop := (∃ o, s'.heap.get? x = some o ∧ o.cls = .ref C) ∧ (∃ o, s'.heap.get? l = some o ∧ o.cls = .type "tuple") ∧ K.In s'.heap
theorem rc_niT {op : CmpOp} {b : Bool} (hop : (op = .Eq ∧ b = false) ∨ (op = .NotEq ∧ b = true)) {Q : Value → Shared → Prop} (hu : A.units < cLine) (X : K.In s.heap) (I : PySem.W.InstAt s.heap x ox C od) (hT : s.TypeIs (.ref l) "tuple") (hs : PySem.W.findIn K (.ref C) (cmpInfo op).2.1 = some (some (.ref f))) (hf : PySem.W.isFn K (.ref f) = true) (e : PySem.W.subIn K (.ref C) (.type "tuple") = some false)
    (hcall : wpAny (model prog w) A (call (.ref f) [.ref x, .ref l]) (fun v s' => v = .notImplemented ∧ Behind K x l C s' ∧ Q (.bool b) s') E s) :
    wpAny (model prog w) A (richCompare op (.ref x) (.ref l)) Q E s := by
  have one : wpAny (model prog w) A (tryCompare (.ref x) (cmpInfo op).2.1 (.ref l)) (fun r s' => r = none ∧ Behind K x l C s' ∧ Q (.bool b) s') E s := by
    unfold tryCompare
    refine wpAny_bind (PySem.W.ifBound_K X I hs hf (wpAny_mono hcall (fun v s' hv => ?_) fun _ _ e => e))
    obtain ⟨rfl, h1, h2⟩ := hv
    exact wpAny_pure ⟨rfl, h1, h2⟩
  have two : ∀ s', Behind K x l C s' → Q (.bool b) s' → wpAny (model prog w) A (tryCompare (.ref l) (cmpInfo op).2.2 (.ref x)) (fun r s2 => r = none ∧ Behind K x l C s2 ∧ Q (.bool b) s2) E s' := fun s' hb hq => by
    obtain ⟨⟨o, h1, h2⟩, ⟨o2, h3, h4⟩, h5⟩ := id hb
    rcases hop with ⟨rfl, _⟩ | ⟨rfl, _⟩
    · exact wpAny_tryCompare_declines ⟨o2, h3, h4⟩ F.slot_tuple_eq (call_meets F.slot_tuple_eq ⟨o2, h3, h4⟩ F.entry_tuple_eq (F.args_tuple_eq_2 _ _) (tup_eq_ref l x o h2 e) ⟨h1, h5, rfl, rfl, hb, hq⟩)
    · exact wpAny_tryCompare_declines ⟨o2, h3, h4⟩ F.slot_tuple_ne (call_meets F.slot_tuple_ne ⟨o2, h3, h4⟩ F.entry_tuple_ne (F.args_tuple_ne_2 _ _) (tup_ne_ref l x o h2 e) ⟨h1, h5, rfl, rfl, hb, hq⟩)
  unfold richCompare
  simp only [oneThing_ref]
  refine wpAny_holding (wpAny_bind (wpAny_cRoomFor hu ?_))
  refine wpAny_bind (I.type.here ?_)
  refine wpAny_bind (wpAny_typeOf hT ?_)
  split
  · refine wpAny_bind ((PySem.W.looks_subIn X sub_tup).here ?_)
    simp only [Bool.false_eq_true, if_false, Bool.not_false, if_true]
    refine wpAny_bind (m := tryCompare (.ref x) _ (.ref l)) (wpAny_mono one (fun r s1 y => ?_) fun _ _ e => e)
    obtain ⟨y1, y2, y3⟩ := y
    subst y1
    refine wpAny_bind (m := tryCompare (.ref l) _ (.ref x)) (wpAny_mono (two s1 y2 y3) (fun r s2 y => ?_) fun _ _ e => e)
    obtain ⟨y1, ⟨⟨o, h1, h2⟩, ⟨o2, h3, h4⟩, h5⟩, y4⟩ := y
    subst y1
    rcases hop with ⟨rfl, rfl⟩ | ⟨rfl, rfl⟩
    · exact wpAny_bind (wpAny_rule (wpAny_bind (same_no h1 h2 h3 h4 (wpAny_pure y4))))
    · exact wpAny_bind (wpAny_rule (wpAny_bind (same_no h1 h2 h3 h4 (wpAny_pure y4))))
  · rename_i q
    exact absurd (by simp) q
end
section
variable {X : Cx} {C f : Addr} {k : Nat} {R : List V → Hp → (Hp → Prop) → Prop} {CX : CXT} {fd : FuncData} {ps : List Str} {sp : Sp} {E : XK}
/-- o == tuple, o != tuple, the own def says NotImplemented -/
def rNiT (C : Addr) (b : Bool) (R : List V → Hp → (Hp → Prop) → Prop) : R2 := fun x y H Q => ∃ a dx fs l xs, x = .ref a ∧ y = .ref l ∧ H a = some (.ins C dx fs) ∧ H l = some (.tup xs) ∧ R [.ref a, .ref l] H (fun H' => (∃ dx fs, H' a = some (.ins C dx fs)) ∧ (∃ xs, H' l = some (.tup xs)) ∧ Q (.bl b) H')
theorem op_niT {op : CmpOp} {b : Bool} (hop : (op = .Eq ∧ b = false) ∨ (op = .NotEq ∧ b = true)) (hs : PySem.W.findIn X.K (.ref C) (cmpInfo op).2.1 = some (some (.ref f))) (hf : PySem.W.isFn X.K (.ref f) = true) (e : PySem.W.subIn X.K (.ref C) (.type "tuple") = some false) (G : R7.NiOk X.prog X.w X.K X.mg X.base k f R) (hr : Room k X.A) : OpR X (compareOp op) (rNiT C b R) := by
  intro pins s σ H x y v u Q I rx ry h
  obtain ⟨a, dx, fs, l, xs, rfl, rfl, ha, hl, hR⟩ := h
  cases (show v = Value.ref a from rx)
  cases (show u = Value.ref l from ry)
  obtain ⟨mA, J, _⟩ := ins_get I.hok ha
  obtain ⟨od, J, _⟩ := J.look
  obtain ⟨its, r, ⟨o, ho, hc, n, hd⟩, hz⟩ := I.tuple (SqT.of hl)
  have main : wpAny (model X.prog X.w) X.A (richCompare op (.ref a) (.ref l)) (EP X pins σ Q) X.xe s := by
    refine rc_niT hop hr.units0 I.kIn J ⟨o, ho, hc⟩ hs hf e (wpAny_call (codeAny_mono (G X.A X.stack s H [.ref a, .ref l] [.ref a, .ref l] _ hr I.env0 (.cons rfl (.cons rfl .nil)) hR) fun r s' hq => ?_))
    cases r with
    | error e => exact False.elim hq
    | ok fl =>
      cases fl with
      | next => exact False.elim hq
      | brk => exact False.elim hq
      | cont => exact False.elim hq
      | ret u =>
        obtain ⟨hu, hq⟩ := hq
        obtain ⟨v, H', I', _, ⟨dx', fs', ha'⟩, ⟨xs', hl'⟩, q⟩ := I.after hq
        obtain ⟨mA', J', _⟩ := ins_get I'.hok ha'
        obtain ⟨od', J', _⟩ := J'.look
        obtain ⟨its', r', ⟨o', ho', hc', n', hd'⟩, hz'⟩ := I'.tuple (SqT.of hl')
        exact ⟨hu, ⟨⟨_, J'.at_, rfl⟩, ⟨o', ho', hc'⟩, I'.kIn⟩, .bl b, H', I', rfl, q⟩
  rcases hop with ⟨rfl, _⟩ | ⟨rfl, _⟩
  · exact main
  · exact main
/-- o op p, both of the class -/
theorem op_cmpOwn {op : CmpOp} (hop : ∀ a b, compareOp op a b = richCompare op a b) (F : FnOk X.prog X.w X.K X.mg X.base CX k f fd ps sp) (hs : PySem.W.findIn X.K (.ref C) (cmpInfo op).2.1 = some (some (.ref f))) (hf : PySem.W.isFn X.K (.ref f) = true) (hb : Binds X.K fd ps []) (hr : Room k X.A) (hx : Passes CX X E) : OpR X (compareOp op) (R7.rEqOwn C sp E) := by
  intro pins s σ H x y v u Q I rx ry h
  obtain ⟨a, dx, fs, b, dy, gs, rfl, rfl, ha, hb', hsp⟩ := h
  cases (show v = Value.ref a from rx)
  cases (show u = Value.ref b from ry)
  obtain ⟨mA, J, _⟩ := ins_get I.hok ha
  obtain ⟨mB, J', _⟩ := ins_get I.hok hb'
  obtain ⟨od, J, _⟩ := J.look
  obtain ⟨od', J', _⟩ := J'.look
  obtain ⟨m, hF⟩ := I.fr
  rw [hop]
  refine PySem.W.cmp_K (op := op) (tb := .ref C) hr.units0 hF I.ok.mod.kin J J'.type (by simp [PySem.W.notFirst]) hs hf ?_
  have hl := F.len _ _ _ _ hsp
  have r2 : Vals [V.ref a, V.ref b] [Value.ref a, Value.ref b] := .cons rfl (.cons rfl .nil)
  refine wpAny_call (codeAny_mono (F.run X.A X.stack s H ⟨[.ref a, .ref b], []⟩ [.ref a, .ref b] [.ref a, .ref b] _ E hr I.env0 (by
    have := hb s [.ref a, .ref b] I.kIn (by simpa using hl)
    simpa using this) r2 hsp) fun r s' hq => ?_)
  cases r with
  | error e => exact hx pins σ H s e s' I hq
  | ok fl =>
    cases fl with
    | ret w =>
      obtain ⟨z, H', I', rz, r, ez, q⟩ := I.after hq
      subst ez
      cases rz
      exact ⟨.bl r, H', I', rfl, q⟩
    | next => exact False.elim hq
    | brk => exact False.elim hq
    | cont => exact False.elim hq
end
/-! ### tuples of a bool and three ints, in order -/
structure P4 where
  f : Bool
  m : Int
  k : Int
  i : Int
def bi (b : Bool) : Int := if b = true then 1 else 0
def P4.vs (p : P4) : List V := [.bl p.f, .int p.m, .int p.k, .int p.i]
def P4.ns (p : P4) : List Int := [bi p.f, p.m, p.k, p.i]
/-- below 0, 0 or above, as the first pair that differs says -/
def P4.ord (p q : P4) : Int := if bi p.f = bi q.f then (if p.m = q.m then (if p.k = q.k then p.i - q.i else p.k - q.k) else p.m - q.m) else bi p.f - bi q.f
def ansOf (op : CmpOp) (d : Int) : Bool := match op with
  | .Eq => decide (d = 0) | .NotEq => !decide (d = 0) | .Lt => decide (d < 0) | .LtE => decide (d ≤ 0) | .Gt => decide (d > 0) | .GtE => decide (d ≥ 0) | _ => false
section
variable {X : Cx} {pins : List (Addr × Obj)} {σ : L2.St} {H : Hp} {s : Shared}
theorem items4 {p : P4} {its : List Value} (r : Vals p.vs its) : ∃ t1 t2 t3, its = [.bool p.f, .int p.m t1, .int p.k t2, .int p.i t3] := by
  unfold P4.vs at r
  cases r with
  | cons r1 r => cases r with
    | cons r2 r => cases r with
      | cons r3 r => cases r with
        | cons r4 r =>
          cases r
          cases (show _ = Value.bool p.f from r1)
          obtain ⟨t1, rfl⟩ := r2
          obtain ⟨t2, rfl⟩ := r3
          obtain ⟨t3, rfl⟩ := r4
          exact ⟨t1, t2, t3, rfl⟩
def rOrd (K : PySem.W.Frag) (op : CmpOp) : R2 := fun x y H Q => ∃ (a b : Addr) (p q : P4), x = .ref a ∧ y = .ref b ∧ SqT K H a p.vs ∧ SqT K H b q.vs ∧ Q (.bl (ansOf op (p.ord q))) H
theorem eq4 (p q : P4) (t1 t2 t3 u1 u2 u3 : Tok) {A : Around} {s : Shared} : ∀ j (h1 : j < (#[Value.bool p.f, .int p.m t1, .int p.k t2, .int p.i t3] : Array Value).size) (h2 : j < (#[Value.bool q.f, .int q.m u1, .int q.k u2, .int q.i u3] : Array Value).size),
    SeqAt.EqAt A s (#[Value.bool p.f, .int p.m t1, .int p.k t2, .int p.i t3] : Array Value)[j] (#[Value.bool q.f, .int q.m u1, .int q.k u2, .int q.i u3] : Array Value)[j] (decide (p.ns.getD j 0 = q.ns.getD j 0)) := by
  have z : ∀ a b : Int, (a == b) = decide (a = b) := fun a b => by
    by_cases h : a = b
    · rw [decide_eq_true h]; exact beq_iff_eq.mpr h
    · rw [decide_eq_false h]; exact beq_eq_false_iff_ne.mpr h
  have zb : (p.f == q.f) = decide (bi p.f = bi q.f) := by cases p.f <;> cases q.f <;> decide
  intro j h1 h2
  match j, h1 with
  | 0, _ =>
    show SeqAt.EqAt A s (.bool p.f) (.bool q.f) (decide (bi p.f = bi q.f))
    rw [← zb]; exact SeqAt.EqAt.bool_bool _ _
  | 1, _ =>
    show SeqAt.EqAt A s (.int p.m t1) (.int q.m u1) (decide (p.m = q.m))
    rw [← z]; exact SeqAt.EqAt.int_int _ _ _ _
  | 2, _ =>
    show SeqAt.EqAt A s (.int p.k t2) (.int q.k u2) (decide (p.k = q.k))
    rw [← z]; exact SeqAt.EqAt.int_int _ _ _ _
  | 3, _ =>
    show SeqAt.EqAt A s (.int p.i t3) (.int q.i u3) (decide (p.i = q.i))
    rw [← z]; exact SeqAt.EqAt.int_int _ _ _ _
  | j + 4, h => exact absurd h (by simp)
theorem rel_lt (p q : P4) (t1 t2 t3 u1 u2 u3 : Tok) {A : Around} {s : Shared} : ∀ j (h1 : j < (#[Value.bool p.f, .int p.m t1, .int p.k t2, .int p.i t3] : Array Value).size) (h2 : j < (#[Value.bool q.f, .int q.m u1, .int q.k u2, .int q.i u3] : Array Value).size),
    Ob.RcOp .Lt A s (#[Value.bool p.f, .int p.m t1, .int p.k t2, .int p.i t3] : Array Value)[j] (#[Value.bool q.f, .int q.m u1, .int q.k u2, .int q.i u3] : Array Value)[j] (decide (p.ns.getD j 0 < q.ns.getD j 0)) := by
  intro j h1 h2
  match j, h1 with
  | 0, _ => exact fun _ _ _ _ h => PyProof.Rows.lt_bool h
  | 1, _ => exact Ob.RcOp.lt_int p.m q.m t1 u1
  | 2, _ => exact Ob.RcOp.lt_int p.k q.k t2 u2
  | 3, _ => exact Ob.RcOp.lt_int p.i q.i t3 u3
  | j + 4, h => exact absurd h (by simp)
theorem lex_lt (p q : P4) : Ob.lexAt (fun j => decide (p.ns.getD j 0 = q.ns.getD j 0)) (fun j => decide (p.ns.getD j 0 < q.ns.getD j 0)) (decide ((4 : Nat) < 4)) 0 4 = ansOf .Lt (p.ord q) := by
  have g0 : p.ns.getD 0 0 = bi p.f := rfl
  have g1 : p.ns.getD 1 0 = p.m := rfl
  have g2 : p.ns.getD 2 0 = p.k := rfl
  have g3 : p.ns.getD 3 0 = p.i := rfl
  have k0 : q.ns.getD 0 0 = bi q.f := rfl
  have k1 : q.ns.getD 1 0 = q.m := rfl
  have k2 : q.ns.getD 2 0 = q.k := rfl
  have k3 : q.ns.getD 3 0 = q.i := rfl
  simp only [Ob.lexAt, g0, g1, g2, g3, k0, k1, k2, k3, decide_eq_true_eq]
  unfold P4.ord ansOf
  by_cases h0 : bi p.f = bi q.f
  · rw [if_pos h0, if_pos h0]
    by_cases h1 : p.m = q.m
    · rw [if_pos h1, if_pos h1]
      by_cases h2 : p.k = q.k
      · rw [if_pos h2, if_pos h2]
        by_cases h3 : p.i = q.i
        · rw [if_pos h3]; exact decide_eq_decide.mpr (by omega)
        · rw [if_neg h3]; exact decide_eq_decide.mpr (by omega)
      · rw [if_neg h2, if_neg h2]; exact decide_eq_decide.mpr (by omega)
    · rw [if_neg h1, if_neg h1]; exact decide_eq_decide.mpr (by omega)
  · rw [if_neg h0, if_neg h0]; exact decide_eq_decide.mpr (by omega)
theorem op_lt4 (hu : X.A.units < cLine) : OpR X (compareOp .Lt) (rOrd X.K .Lt) := by
  intro pins s σ H x y v u Q I rx ry h
  obtain ⟨a, b, p, q, rfl, rfl, ha, hb, hq⟩ := h
  cases (show v = Value.ref a from rx)
  cases (show u = Value.ref b from ry)
  obtain ⟨its, r1, p1, _⟩ := I.tuple ha
  obtain ⟨its2, r2, p2, _⟩ := I.tuple hb
  obtain ⟨t1, t2, t3, rfl⟩ := items4 r1
  obtain ⟨u1, u2, u3, rfl⟩ := items4 r2
  have R := Ob.RcOp.tuples_lt (A := X.A) (s := s) p1 p2 hu (eq4 p q t1 t2 t3 u1 u2 u3) (fun j h1 h2 _ => rel_lt p q t1 t2 t3 u1 u2 u3 j h1 h2)
  have R2 : Ob.RcOp .Lt X.A s (.ref a) (.ref b) (ansOf .Lt (p.ord q)) := by
    rw [← lex_lt p q]; exact R
  exact R2 X.prog X.w X.xe (EP X pins σ Q) ⟨.bl _, H, I, rfl, hq⟩
theorem rel_le (p q : P4) (t1 t2 t3 u1 u2 u3 : Tok) {A : Around} {s : Shared} : ∀ j (h1 : j < (#[Value.bool p.f, .int p.m t1, .int p.k t2, .int p.i t3] : Array Value).size) (h2 : j < (#[Value.bool q.f, .int q.m u1, .int q.k u2, .int q.i u3] : Array Value).size),
    Ob.RcOp .LtE A s (#[Value.bool p.f, .int p.m t1, .int p.k t2, .int p.i t3] : Array Value)[j] (#[Value.bool q.f, .int q.m u1, .int q.k u2, .int q.i u3] : Array Value)[j] (decide (p.ns.getD j 0 ≤ q.ns.getD j 0)) := by
  intro j h1 h2
  match j, h1 with
  | 0, _ => exact fun _ _ _ _ h => PyProof.Rows.le_bool h
  | 1, _ => exact Ob.RcOp.le_int p.m q.m t1 u1
  | 2, _ => exact Ob.RcOp.le_int p.k q.k t2 u2
  | 3, _ => exact Ob.RcOp.le_int p.i q.i t3 u3
  | j + 4, h => exact absurd h (by simp)
theorem lex_le (p q : P4) : Ob.lexAt (fun j => decide (p.ns.getD j 0 = q.ns.getD j 0)) (fun j => decide (p.ns.getD j 0 ≤ q.ns.getD j 0)) (decide ((4 : Nat) ≤ 4)) 0 4 = ansOf .LtE (p.ord q) := by
  have g0 : p.ns.getD 0 0 = bi p.f := rfl
  have g1 : p.ns.getD 1 0 = p.m := rfl
  have g2 : p.ns.getD 2 0 = p.k := rfl
  have g3 : p.ns.getD 3 0 = p.i := rfl
  have k0 : q.ns.getD 0 0 = bi q.f := rfl
  have k1 : q.ns.getD 1 0 = q.m := rfl
  have k2 : q.ns.getD 2 0 = q.k := rfl
  have k3 : q.ns.getD 3 0 = q.i := rfl
  simp only [Ob.lexAt, g0, g1, g2, g3, k0, k1, k2, k3, decide_eq_true_eq]
  unfold P4.ord ansOf
  by_cases h0 : bi p.f = bi q.f
  · rw [if_pos h0, if_pos h0]
    by_cases h1 : p.m = q.m
    · rw [if_pos h1, if_pos h1]
      by_cases h2 : p.k = q.k
      · rw [if_pos h2, if_pos h2]
        by_cases h3 : p.i = q.i
        · rw [if_pos h3]; exact decide_eq_decide.mpr (by omega)
        · rw [if_neg h3]; exact decide_eq_decide.mpr (by omega)
      · rw [if_neg h2, if_neg h2]; exact decide_eq_decide.mpr (by omega)
    · rw [if_neg h1, if_neg h1]; exact decide_eq_decide.mpr (by omega)
  · rw [if_neg h0, if_neg h0]; exact decide_eq_decide.mpr (by omega)
theorem op_le4 (hu : X.A.units < cLine) : OpR X (compareOp .LtE) (rOrd X.K .LtE) := by
  intro pins s σ H x y v u Q I rx ry h
  obtain ⟨a, b, p, q, rfl, rfl, ha, hb, hq⟩ := h
  cases (show v = Value.ref a from rx)
  cases (show u = Value.ref b from ry)
  obtain ⟨its, r1, p1, _⟩ := I.tuple ha
  obtain ⟨its2, r2, p2, _⟩ := I.tuple hb
  obtain ⟨t1, t2, t3, rfl⟩ := items4 r1
  obtain ⟨u1, u2, u3, rfl⟩ := items4 r2
  have R := Ob.RcOp.tuples_le (A := X.A) (s := s) p1 p2 hu (eq4 p q t1 t2 t3 u1 u2 u3) (fun j h1 h2 _ => rel_le p q t1 t2 t3 u1 u2 u3 j h1 h2)
  have R2 : Ob.RcOp .LtE X.A s (.ref a) (.ref b) (ansOf .LtE (p.ord q)) := by
    rw [← lex_le p q]; exact R
  exact R2 X.prog X.w X.xe (EP X pins σ Q) ⟨.bl _, H, I, rfl, hq⟩
theorem rel_gt (p q : P4) (t1 t2 t3 u1 u2 u3 : Tok) {A : Around} {s : Shared} : ∀ j (h1 : j < (#[Value.bool p.f, .int p.m t1, .int p.k t2, .int p.i t3] : Array Value).size) (h2 : j < (#[Value.bool q.f, .int q.m u1, .int q.k u2, .int q.i u3] : Array Value).size),
    Ob.RcOp .Gt A s (#[Value.bool p.f, .int p.m t1, .int p.k t2, .int p.i t3] : Array Value)[j] (#[Value.bool q.f, .int q.m u1, .int q.k u2, .int q.i u3] : Array Value)[j] (decide (p.ns.getD j 0 > q.ns.getD j 0)) := by
  intro j h1 h2
  match j, h1 with
  | 0, _ => exact fun _ _ _ _ h => PyProof.Rows.gt_bool h
  | 1, _ => exact Ob.RcOp.gt_int p.m q.m t1 u1
  | 2, _ => exact Ob.RcOp.gt_int p.k q.k t2 u2
  | 3, _ => exact Ob.RcOp.gt_int p.i q.i t3 u3
  | j + 4, h => exact absurd h (by simp)
theorem lex_gt (p q : P4) : Ob.lexAt (fun j => decide (p.ns.getD j 0 = q.ns.getD j 0)) (fun j => decide (p.ns.getD j 0 > q.ns.getD j 0)) (decide ((4 : Nat) > 4)) 0 4 = ansOf .Gt (p.ord q) := by
  have g0 : p.ns.getD 0 0 = bi p.f := rfl
  have g1 : p.ns.getD 1 0 = p.m := rfl
  have g2 : p.ns.getD 2 0 = p.k := rfl
  have g3 : p.ns.getD 3 0 = p.i := rfl
  have k0 : q.ns.getD 0 0 = bi q.f := rfl
  have k1 : q.ns.getD 1 0 = q.m := rfl
  have k2 : q.ns.getD 2 0 = q.k := rfl
  have k3 : q.ns.getD 3 0 = q.i := rfl
  simp only [Ob.lexAt, g0, g1, g2, g3, k0, k1, k2, k3, decide_eq_true_eq]
  unfold P4.ord ansOf
  by_cases h0 : bi p.f = bi q.f
  · rw [if_pos h0, if_pos h0]
    by_cases h1 : p.m = q.m
    · rw [if_pos h1, if_pos h1]
      by_cases h2 : p.k = q.k
      · rw [if_pos h2, if_pos h2]
        by_cases h3 : p.i = q.i
        · rw [if_pos h3]; exact decide_eq_decide.mpr (by omega)
        · rw [if_neg h3]; exact decide_eq_decide.mpr (by omega)
      · rw [if_neg h2, if_neg h2]; exact decide_eq_decide.mpr (by omega)
    · rw [if_neg h1, if_neg h1]; exact decide_eq_decide.mpr (by omega)
  · rw [if_neg h0, if_neg h0]; exact decide_eq_decide.mpr (by omega)
theorem op_gt4 (hu : X.A.units < cLine) : OpR X (compareOp .Gt) (rOrd X.K .Gt) := by
  intro pins s σ H x y v u Q I rx ry h
  obtain ⟨a, b, p, q, rfl, rfl, ha, hb, hq⟩ := h
  cases (show v = Value.ref a from rx)
  cases (show u = Value.ref b from ry)
  obtain ⟨its, r1, p1, _⟩ := I.tuple ha
  obtain ⟨its2, r2, p2, _⟩ := I.tuple hb
  obtain ⟨t1, t2, t3, rfl⟩ := items4 r1
  obtain ⟨u1, u2, u3, rfl⟩ := items4 r2
  have R := Ob.RcOp.tuples_gt (A := X.A) (s := s) p1 p2 hu (eq4 p q t1 t2 t3 u1 u2 u3) (fun j h1 h2 _ => rel_gt p q t1 t2 t3 u1 u2 u3 j h1 h2)
  have R2 : Ob.RcOp .Gt X.A s (.ref a) (.ref b) (ansOf .Gt (p.ord q)) := by
    rw [← lex_gt p q]; exact R
  exact R2 X.prog X.w X.xe (EP X pins σ Q) ⟨.bl _, H, I, rfl, hq⟩
theorem rel_ge (p q : P4) (t1 t2 t3 u1 u2 u3 : Tok) {A : Around} {s : Shared} : ∀ j (h1 : j < (#[Value.bool p.f, .int p.m t1, .int p.k t2, .int p.i t3] : Array Value).size) (h2 : j < (#[Value.bool q.f, .int q.m u1, .int q.k u2, .int q.i u3] : Array Value).size),
    Ob.RcOp .GtE A s (#[Value.bool p.f, .int p.m t1, .int p.k t2, .int p.i t3] : Array Value)[j] (#[Value.bool q.f, .int q.m u1, .int q.k u2, .int q.i u3] : Array Value)[j] (decide (p.ns.getD j 0 ≥ q.ns.getD j 0)) := by
  intro j h1 h2
  match j, h1 with
  | 0, _ => exact fun _ _ _ _ h => PyProof.Rows.ge_bool h
  | 1, _ => exact Ob.RcOp.ge_int p.m q.m t1 u1
  | 2, _ => exact Ob.RcOp.ge_int p.k q.k t2 u2
  | 3, _ => exact Ob.RcOp.ge_int p.i q.i t3 u3
  | j + 4, h => exact absurd h (by simp)
theorem lex_ge (p q : P4) : Ob.lexAt (fun j => decide (p.ns.getD j 0 = q.ns.getD j 0)) (fun j => decide (p.ns.getD j 0 ≥ q.ns.getD j 0)) (decide ((4 : Nat) ≥ 4)) 0 4 = ansOf .GtE (p.ord q) := by
  have g0 : p.ns.getD 0 0 = bi p.f := rfl
  have g1 : p.ns.getD 1 0 = p.m := rfl
  have g2 : p.ns.getD 2 0 = p.k := rfl
  have g3 : p.ns.getD 3 0 = p.i := rfl
  have k0 : q.ns.getD 0 0 = bi q.f := rfl
  have k1 : q.ns.getD 1 0 = q.m := rfl
  have k2 : q.ns.getD 2 0 = q.k := rfl
  have k3 : q.ns.getD 3 0 = q.i := rfl
  simp only [Ob.lexAt, g0, g1, g2, g3, k0, k1, k2, k3, decide_eq_true_eq]
  unfold P4.ord ansOf
  by_cases h0 : bi p.f = bi q.f
  · rw [if_pos h0, if_pos h0]
    by_cases h1 : p.m = q.m
    · rw [if_pos h1, if_pos h1]
      by_cases h2 : p.k = q.k
      · rw [if_pos h2, if_pos h2]
        by_cases h3 : p.i = q.i
        · rw [if_pos h3]; exact decide_eq_decide.mpr (by omega)
        · rw [if_neg h3]; exact decide_eq_decide.mpr (by omega)
      · rw [if_neg h2, if_neg h2]; exact decide_eq_decide.mpr (by omega)
    · rw [if_neg h1, if_neg h1]; exact decide_eq_decide.mpr (by omega)
  · rw [if_neg h0, if_neg h0]; exact decide_eq_decide.mpr (by omega)
theorem op_ge4 (hu : X.A.units < cLine) : OpR X (compareOp .GtE) (rOrd X.K .GtE) := by
  intro pins s σ H x y v u Q I rx ry h
  obtain ⟨a, b, p, q, rfl, rfl, ha, hb, hq⟩ := h
  cases (show v = Value.ref a from rx)
  cases (show u = Value.ref b from ry)
  obtain ⟨its, r1, p1, _⟩ := I.tuple ha
  obtain ⟨its2, r2, p2, _⟩ := I.tuple hb
  obtain ⟨t1, t2, t3, rfl⟩ := items4 r1
  obtain ⟨u1, u2, u3, rfl⟩ := items4 r2
  have R := Ob.RcOp.tuples_ge (A := X.A) (s := s) p1 p2 hu (eq4 p q t1 t2 t3 u1 u2 u3) (fun j h1 h2 _ => rel_ge p q t1 t2 t3 u1 u2 u3 j h1 h2)
  have R2 : Ob.RcOp .GtE X.A s (.ref a) (.ref b) (ansOf .GtE (p.ord q)) := by
    rw [← lex_ge p q]; exact R
  exact R2 X.prog X.w X.xe (EP X pins σ Q) ⟨.bl _, H, I, rfl, hq⟩
end
end R8

set_option maxRecDepth 100000
set_option maxHeartbeats 4000000
namespace K11
open PySem PySem.Spec PyProof.Rows L2 PySem.W PySem.Calls
/-! ### heaps -/
theorem same_new {H : Hp} {p : Addr} {o : HO} (h : H p = none) : Same H (upd H p o) := fun b x e => by
  rw [upd_ne (ne_of_none e h)]; exact e
theorem same_at {H H' : Hp} {o : Addr} {x : HO} (s : Same H H') (h : H o = none) : Same H (upd H' o x) := fun b z e => by
  rw [upd_ne (ne_of_none e h)]; exact s b z e
theorem same_new2 {H H' : Hp} {p : Addr} {o : HO} (s : Same H H') (h : H' p = none) : Same H (upd H' p o) := fun b z e => by
  have e2 := s b z e
  rw [upd_ne (ne_of_none e2 h)]; exact e2
theorem map_snoc (rs : List Int) (r : Int) : rs.map V.int ++ [V.int r] = (rs ++ [r]).map V.int := by rw [List.map_append]; rfl
theorem map_snocS (rs : List Str) (r : Str) : rs.map V.str ++ [V.str r] = (rs ++ [r]).map V.str := by rw [List.map_append]; rfl
/-! ### texts as lists -/
abbrev tl (z : Str) : List Nat := z.cps.toList
theorem tl_len (z : Str) : (tl z).length = z.length := by simp [tl, Str.length]
theorem str_eq {a b : Str} (h : tl a = tl b) : a = b := by
  obtain ⟨x⟩ := a; obtain ⟨y⟩ := b
  show (⟨x⟩ : Str) = ⟨y⟩
  congr 1
  apply Array.toList_inj.mp; simpa [tl] using h
theorem str_of {z : Str} {x : Nat} (h : tl z = [x]) : z = ⟨#[x]⟩ := str_eq h
theorem str_mk (z : Str) : z = ⟨(tl z).toArray⟩ := str_eq rfl
theorem tl_add (a b : Str) : tl (a ++ b) = tl a ++ tl b := by
  show (a.cps ++ b.cps).toList = _
  rw [Array.toList_append]
theorem len_add (a b : Str) : (a ++ b).length = a.length + b.length := by
  show (a.cps ++ b.cps).size = _
  rw [Array.size_append]; rfl
theorem lt_one (x y : Nat) : decide ([x] < [y]) = !decide (y ≤ x) := by
  have e : decide ([x] < [y]) = decide (x < y) := by simp [List.cons_lt_cons_iff]
  rw [e]
  by_cases h : y ≤ x
  · rw [decide_eq_true h, decide_eq_false (by omega)]; rfl
  · rw [decide_eq_false h, decide_eq_true (by omega)]; rfl
theorem eqS (a b : Nat) : decide (V.str ⟨#[a]⟩ = V.str ⟨#[b]⟩) = decide (a = b) := by
  refine decide_eq_decide.mpr ⟨fun h => ?_, fun h => by rw [h]⟩
  injection h with h1
  have h2 := congrArg tl h1
  simpa [tl] using h2
theorem eqT (a b : Str) : decide (V.str a = V.str b) = decide (tl a = tl b) := by
  refine decide_eq_decide.mpr ⟨fun h => ?_, fun h => by rw [str_eq h]⟩
  injection h with h1
  rw [h1]
theorem eqI (a b : Int) : decide (V.int a = V.int b) = decide (a = b) := by
  refine decide_eq_decide.mpr ⟨fun h => ?_, fun h => by rw [h]⟩
  injection h
theorem cut_tl (z : Str) (a b : Nat) : tl (cutS z (some (a : Int)) (some (b : Int))) = ((tl z).drop (min a z.length)).take (min b z.length - min a z.length) := by
  unfold cutS tl
  rw [HT.sIx_nat, HT.sIx_nat]
theorem cut_to (z : Str) (b : Nat) : tl (cutS z none (some (b : Int))) = (tl z).take b := by
  unfold cutS tl
  rw [HT.sIx_none, HT.sIx_nat]
  show (z.cps.toList.drop 0).take (min b z.length - 0) = _
  rw [List.drop_zero, Nat.sub_zero]
  by_cases h : b ≤ z.length
  · rw [Nat.min_eq_left h]
  · rw [Nat.min_eq_right (by omega), List.take_of_length_le (by rw [tl_len]; exact Nat.le_refl _), List.take_of_length_le (by rw [tl_len]; omega)]
theorem cut_from (z : Str) (a : Nat) : tl (cutS z (some (a : Int)) none) = (tl z).drop a := by
  unfold cutS tl
  rw [HT.sIx_none, HT.sIx_nat]
  show (z.cps.toList.drop (min a z.length)).take (z.length - min a z.length) = _
  by_cases h : a ≤ z.length
  · rw [Nat.min_eq_left h, List.take_of_length_le (by rw [List.length_drop, tl_len]; exact Nat.le_refl _)]
  · rw [Nat.min_eq_right (by omega), Nat.sub_self, List.take_zero, List.drop_of_length_le (by rw [tl_len]; omega)]
theorem joinL_flat : ∀ ls : List (List Nat), TL.joinL [] ls = ls.flatten
  | [] => rfl
  | [p] => by simp [TL.joinL]
  | p :: q :: r => by
    have h := joinL_flat (q :: r)
    simp only [TL.joinL, List.nil_append, h, List.flatten_cons]
theorem tl_joined {e : Str} (he : tl e = []) (ys : List Str) : tl (Txt.join e ys) = (ys.map tl).flatten := by
  have h1 : TL.tl (Txt.join e ys) = TL.joinL (TL.tl e) (ys.map TL.tl) := by rw [TL.join_eq, TL.tl_join]
  have h2 : TL.tl e = [] := he
  rw [h2, joinL_flat] at h1
  exact h1
/-- texts of one sign each, joined -/
theorem join_ones (cs : List Nat) : tl (Txt.join (Str.ofString "") (cs.map fun c => (⟨#[c]⟩ : Str))) = cs := by
  rw [tl_joined (by decide +kernel), List.map_map]
  induction cs with
  | nil => rfl
  | cons c cs ih => simp only [List.map_cons, List.flatten_cons, ih]; rfl
theorem sum_ones (cs : List Nat) : ((cs.map fun c => (⟨#[c]⟩ : Str)).map (·.length)).sum = cs.length := by
  induction cs with
  | nil => rfl
  | cons c cs ih => simp only [List.map_cons, List.sum_cons, ih, List.length_cons]; show 1 + _ = _; omega
/-! ### in the heap -/
/-- tuples stay -/
def SameT (H H' : Hp) : Prop := ∀ a xs, H a = some (.tup xs) → H' a = some (.tup xs)
theorem SameT.refl (H : Hp) : SameT H H := fun _ _ h => h
theorem SameT.trans {H H1 H2 : Hp} (a : SameT H H1) (b : SameT H1 H2) : SameT H H2 := fun x xs h => b x xs (a x xs h)
theorem SameT.new {H : Hp} {p : Addr} {o : HO} (h : H p = none) : SameT H (upd H p o) := fun a xs e => by
  rw [upd_ne (ne_of_none e h)]; exact e
theorem SameT.lst {H : Hp} {p : Addr} {o : HO} {ys : List V} (h : H p = some (.lst ys)) : SameT H (upd H p o) := fun a xs e => by
  rw [upd_ne (ne_of e h (by intro z; cases z))]; exact e
/-! the text -/
def topS (i : Nat) : Stmt := PySem.Challenge.pw_laidforall_k11_ranks.main.body.getD i (.Pass ⟨0, 0, 0, 0⟩)
abbrev sBPInit : Stmt := inClass (topS 5) 0
abbrev sLetter : Stmt := topS 11
abbrev sNameEnd : Stmt := topS 12
abbrev sIsName : Stmt := topS 13
abbrev sTest : Stmt := topS 24
abbrev sTests : Stmt := topS 25
abbrev sPInit : Stmt := inClass (topS 27) 0
abbrev sAsked : Stmt := inClass (topS 27) 3
abbrev sNamed : Stmt := inClass (topS 27) 4
abbrev sRInit : Stmt := inClass (topS 34) 0
abbrev sREq : Stmt := inClass (topS 34) 1
abbrev sRNe : Stmt := inClass (topS 34) 2
abbrev sRLt : Stmt := inClass (topS 34) 3
abbrev sRLe : Stmt := inClass (topS 34) 4
abbrev sRGt : Stmt := inClass (topS 34) 5
abbrev sRGe : Stmt := inClass (topS 34) 6
abbrev sValue : Stmt := topS 35
abbrev sRRow : Stmt := topS 36
abbrev sSInit : Stmt := inClass (topS 37) 0
abbrev sSRow : Stmt := inClass (topS 37) 7
abbrev sSRank : Stmt := inClass (topS 37) 8
abbrev sCell : Stmt := topS 39
abbrev sRow : Stmt := topS 40
abbrev sNumber : Stmt := topS 41
abbrev sParts : Stmt := topS 42
abbrev sLine : Stmt := topS 43
abbrev sOrder : Stmt := topS 44
abbrev sFields : Stmt := topS 45
abbrev sCompared : Stmt := topS 46
abbrev sLaw : Stmt := topS 47
structure Blt (mg : Str → Option Value) : Prop where
  len : mg "len" = none
  int : mg "int" = none
  str : mg "str" = none
  bool : mg "bool" = none
  tuple : mg "tuple" = none
  range : mg "range" = none
  isi : mg "isinstance" = none
  ve : mg "ValueError" = none
  list : mg "list" = none
  enum : mg "enumerate" = none
structure Cst (mg : Str → Option Value) (t1 t2 t3 t4 t5 t6 : Tok) : Prop where
  g_LONGEST_NAME : mg "LONGEST_NAME" = some (.int 8 t1)
  g_MOST_TESTS : mg "MOST_TESTS" = some (.int 4 t2)
  g_ANY_KIND : mg "ANY_KIND" = some (.str (Str.ofString "*") t3)
  g_INSIDE : mg "INSIDE" = some (.str (Str.ofString "") t4)
  g_CHILD : mg "CHILD" = some (.str (Str.ofString ">") t5)
  g_BEHIND : mg "BEHIND" = some (.str (Str.ofString "+") t6)
theorem passN {X : Cx} : Passes (L2.CX X.prog X.w) X E0 := fun _ _ _ _ _ _ _ h => by
  unfold L2.CX at h
  obtain ⟨a, B, H', cls, d, h1, h2, h3, h4, h⟩ := h
  simp only [E0, and_false] at h
/-! ### patterns -/
def isL (x : Nat) : Bool := decide (97 ≤ x) && decide (x ≤ 122)
def Name (z : Str) : Prop := 1 ≤ (tl z).length ∧ (tl z).length ≤ 8 ∧ ∀ c ∈ tl z, isL c = true
def Mark (z : Str) : Prop := tl z = [] ∨ Name z
abbrev Tst := Str × Str
def starS : Str := Str.ofString "*"
theorem tl_star : tl starS = [42] := by decide +kernel
def GoodT (x : Tst) : Prop := (x.1 = starS ∨ Name x.1) ∧ Mark x.2
def dotS : Str := Str.ofString "."
theorem tl_dot : tl dotS = [46] := by decide +kernel
/-- a test as it is written -/
def wordL (x : Tst) : List Nat := tl x.1 ++ (if tl x.2 = [] then [] else 46 :: tl x.2)
inductive Tk where
  | lnk (l : Nat)
  | tst (x : Tst)
def symL (l : Nat) : List Nat := if l = 1 then [62] else [43]
def encT : Tk → List Nat
  | .lnk l => symL l
  | .tst x => wordL x
abbrev Ps := List Tst × List Nat × Nat
def stp : Ps → Tk → Ps
  | (ts, ls, _), .lnk l => (ts, ls, l)
  | (ts, ls, p), .tst x => (ts ++ [x], if ts = [] then ls else ls ++ [p], 0)
def okTk : Ps → List Tk → Prop
  | _, [] => True
  | s, .lnk l :: r => s.1 ≠ [] ∧ s.2.2 = 0 ∧ (l = 1 ∨ l = 2) ∧ okTk (stp s (.lnk l)) r
  | s, .tst x :: r => GoodT x ∧ okTk (stp s (.tst x)) r
def tail (rs : List (Nat × Tst)) : List Tk := rs.flatMap fun r => if r.1 = 0 then [.tst r.2] else [.lnk r.1, .tst r.2]
def toks (x : Tst) (rs : List (Nat × Tst)) : List Tk := .tst x :: tail rs
theorem stp_tst {ts : List Tst} {ls : List Nat} {p : Nat} {x : Tst} (h : ts ≠ []) : stp (ts, ls, p) (.tst x) = (ts ++ [x], ls ++ [p], 0) := by simp [stp, h]
theorem tail_ok : ∀ (rs : List (Nat × Tst)) (ts : List Tst) (ls : List Nat), ts ≠ [] → (∀ r ∈ rs, r.1 ≤ 2 ∧ GoodT r.2) → okTk (ts, ls, 0) (tail rs) ∧ (tail rs).foldl stp (ts, ls, 0) = (ts ++ rs.map (·.2), ls ++ rs.map (·.1), 0)
  | [], ts, ls, _, _ => by simp [tail, okTk]
  | (l, x) :: rs, ts, ls, hne, h => by
    obtain ⟨h1, h2⟩ := h (l, x) List.mem_cons_self
    obtain ⟨i1, i2⟩ := tail_ok rs (ts ++ [x]) (ls ++ [l]) (by simp) fun r hr => h r (List.mem_cons_of_mem _ hr)
    by_cases hl : l = 0
    · subst hl
      have e : tail ((0, x) :: rs) = .tst x :: tail rs := by simp [tail]
      rw [e]
      refine ⟨⟨h2, ?_⟩, ?_⟩
      · show okTk (stp (ts, ls, 0) (.tst x)) (tail rs)
        rw [stp_tst hne]; exact i1
      · show (tail rs).foldl stp (stp (ts, ls, 0) (.tst x)) = _
        rw [stp_tst hne, i2]; simp
    · have e : tail ((l, x) :: rs) = .lnk l :: .tst x :: tail rs := by simp [tail, hl]
      rw [e]
      have h1' : l ≤ 2 := h1
      refine ⟨⟨hne, rfl, by omega, h2, ?_⟩, ?_⟩
      · show okTk (stp (ts, ls, l) (.tst x)) (tail rs)
        rw [stp_tst hne]; exact i1
      · show (tail rs).foldl stp (stp (ts, ls, l) (.tst x)) = _
        rw [stp_tst hne, i2]; simp
theorem toks_ok {x : Tst} {rs : List (Nat × Tst)} (hx : GoodT x) (h : ∀ r ∈ rs, r.1 ≤ 2 ∧ GoodT r.2) : okTk ([], [], 0) (toks x rs) ∧ (toks x rs).foldl stp ([], [], 0) = (x :: rs.map (·.2), rs.map (·.1), 0) := by
  obtain ⟨i1, i2⟩ := tail_ok rs [x] [] (by simp) h
  refine ⟨⟨hx, i1⟩, ?_⟩
  show (tail rs).foldl stp ([] ++ [x], [], 0) = _
  rw [List.nil_append, i2]; simp
/-- the text of a pattern -/
def sepL (l : Nat) : List Nat := if l = 0 then [32] else 32 :: (symL l ++ [32])
def textL (x : Tst) (rs : List (Nat × Tst)) : List Nat := wordL x ++ rs.flatMap fun r => sepL r.1 ++ wordL r.2
theorem joinL_cons (w : List Nat) : ∀ ws : List (List Nat), TL.joinL [32] (w :: ws) = w ++ ws.flatMap (fun v => 32 :: v)
  | [] => by simp [TL.joinL]
  | v :: ws => by
    simp only [TL.joinL, joinL_cons v ws, List.flatMap_cons, List.cons_append, List.nil_append]
theorem join_toks (x : Tst) (rs : List (Nat × Tst)) : TL.joinL [32] ((toks x rs).map encT) = textL x rs := by
  show TL.joinL [32] (wordL x :: (tail rs).map encT) = _
  rw [joinL_cons]
  unfold textL
  congr 1
  induction rs with
  | nil => rfl
  | cons r rs ih =>
    obtain ⟨l, y⟩ := r
    by_cases hl : l = 0
    · subst hl
      have e : tail ((0, y) :: rs) = .tst y :: tail rs := by simp [tail]
      rw [e, List.map_cons, List.flatMap_cons, ih]
      simp [sepL, encT]
    · have e : tail ((l, y) :: rs) = .lnk l :: .tst y :: tail rs := by simp [tail, hl]
      rw [e, List.map_cons, List.map_cons, List.flatMap_cons, List.flatMap_cons, ih]
      simp [sepL, encT, hl]
theorem letter_free {l : List Nat} (h : ∀ c ∈ l, isL c = true) {s : Nat} (hs : s < 97) : s ∉ l := fun hm => by
  have := h s hm
  simp [isL] at this; omega
theorem kind_free {x : Tst} (h : GoodT x) {s : Nat} (hs : s < 97) (h42 : s ≠ 42) : s ∉ tl x.1 := by
  rcases h.1 with h1 | h1
  · rw [h1, tl_star]; simp; exact h42
  · exact letter_free h1.2.2 hs
theorem mark_free {z : Str} (h : Mark z) {s : Nat} (hs : s < 97) : s ∉ tl z := by
  rcases h with h1 | h1
  · rw [h1]; simp
  · exact letter_free h1.2.2 hs
theorem word_free {x : Tst} (h : GoodT x) {s : Nat} (hs : s < 97) (h42 : s ≠ 42) (h46 : s ≠ 46) : s ∉ wordL x := by
  unfold wordL
  intro hm
  rcases List.mem_append.mp hm with h1 | h1
  · exact kind_free h hs h42 h1
  · by_cases he : tl x.2 = []
    · rw [if_pos he] at h1; simp at h1
    · rw [if_neg he] at h1
      rcases List.mem_cons.mp h1 with h2 | h2
      · exact h46 h2
      · exact mark_free h.2 hs h2
theorem kind_len {x : Tst} (h : GoodT x) : 1 ≤ (tl x.1).length ∧ (tl x.1).length ≤ 8 := by
  rcases h.1 with h1 | h1
  · rw [h1, tl_star]; decide
  · exact ⟨h1.1, h1.2.1⟩
theorem mark_len {z : Str} (h : Mark z) : (tl z).length ≤ 8 := by
  rcases h with h1 | h1
  · rw [h1]; decide
  · exact h1.2.1
theorem word_len {x : Tst} (h : GoodT x) : 1 ≤ (wordL x).length ∧ (wordL x).length ≤ 17 := by
  have h1 := kind_len h; have h2 := mark_len h.2
  unfold wordL
  rw [List.length_append]
  by_cases he : tl x.2 = []
  · rw [if_pos he, List.length_nil]; omega
  · rw [if_neg he, List.length_cons]; omega
theorem okTk_mem : ∀ {tk : List Tk} {s : Ps}, okTk s tk → ∀ t ∈ tk, (∃ l, t = .lnk l) ∨ ∃ x, t = .tst x ∧ GoodT x
  | [], _, _, t, h => by simp at h
  | .lnk l :: r, s, h, t, ht => by
    rcases List.mem_cons.mp ht with rfl | h1
    · exact .inl ⟨l, rfl⟩
    · exact okTk_mem h.2.2.2 t h1
  | .tst x :: r, s, h, t, ht => by
    rcases List.mem_cons.mp ht with rfl | h1
    · exact .inr ⟨x, rfl, h.1⟩
    · exact okTk_mem h.2 t h1
theorem enc_free {tk : List Tk} {s : Ps} (h : okTk s tk) : ∀ p ∈ tk.map encT, (32 : Nat) ∉ p := by
  intro p hp
  obtain ⟨t, ht, rfl⟩ := List.mem_map.mp hp
  rcases okTk_mem h t ht with ⟨l, rfl⟩ | ⟨x, rfl, hx⟩
  · show 32 ∉ symL l
    unfold symL; split <;> decide
  · exact word_free hx (by decide) (by decide) (by decide)
theorem enc_len {tk : List Tk} {s : Ps} (h : okTk s tk) : ∀ p ∈ tk.map encT, p.length ≤ 17 := by
  intro p hp
  obtain ⟨t, ht, rfl⟩ := List.mem_map.mp hp
  rcases okTk_mem h t ht with ⟨l, rfl⟩ | ⟨x, rfl, hx⟩
  · show (symL l).length ≤ 17
    unfold symL; split <;> decide
  · exact (word_len hx).2
def blankS : Str := Str.ofString " "
theorem tl_blank : tl blankS = [32] := by decide +kernel
theorem split_toks {z : Str} {tk : List Tk} {s : Ps} (hz : tl z = TL.joinL [32] (tk.map encT)) (hne : tk ≠ []) (h : okTk s tk) : (Txt.split z blankS).map tl = tk.map encT := by
  have h1 := TL.split_spl z blankS (by decide +kernel) (TL.kind_ok (by decide +kernel))
  rw [show TL.tl blankS = [32] from tl_blank, show TL.tl z = TL.joinL [32] (tk.map encT) from hz, TL.spl_join (by simpa using hne) (enc_free h)] at h1
  exact h1

/-! ### any text, read -/
def nameB (l : List Nat) : Bool := decide (1 ≤ l.length) && decide (l.length ≤ 8) && l.all isL
theorem nameB_iff {z : Str} : nameB (tl z) = true ↔ Name z := by
  unfold nameB Name
  simp only [Bool.and_eq_true, decide_eq_true_eq, List.all_eq_true, and_assoc]
def kL (l : List Nat) : List Nat := l.takeWhile (fun c => decide (c ≠ 46))
def mL (l : List Nat) : List Nat := (l.dropWhile (fun c => decide (c ≠ 46))).drop 1
def dB (l : List Nat) : Bool := decide (46 ∈ l)
def kS (z : Str) : Str := ⟨(kL (tl z)).toArray⟩
def mS (z : Str) : Str := ⟨(mL (tl z)).toArray⟩
theorem tl_kS (z : Str) : tl (kS z) = kL (tl z) := by simp [kS, tl]
theorem tl_mS (z : Str) : tl (mS z) = mL (tl z) := by simp [mS, tl]
theorem kL_free (l : List Nat) : 46 ∉ kL l := by
  induction l with
  | nil => simp [kL]
  | cons c l ih =>
    unfold kL at ih ⊢
    rw [List.takeWhile_cons]
    split
    · rename_i h
      intro hm
      rcases List.mem_cons.mp hm with h1 | h1
      · rw [← h1] at h; simp at h
      · exact ih h1
    · simp
theorem cut_nodot {l : List Nat} (h : dB l = false) : kL l = l ∧ mL l = [] := by
  have h' : 46 ∉ l := of_decide_eq_false h
  unfold kL mL
  induction l with
  | nil => exact ⟨rfl, rfl⟩
  | cons c l ih =>
    have hc : c ≠ 46 := fun e => h' (by rw [e]; exact List.mem_cons_self)
    have hl : 46 ∉ l := fun e => h' (List.mem_cons_of_mem _ e)
    obtain ⟨i1, i2⟩ := ih (decide_eq_false hl) hl
    rw [List.takeWhile_cons, List.dropWhile_cons, if_pos (decide_eq_true hc), if_pos (decide_eq_true hc)]
    exact ⟨by rw [i1], i2⟩
theorem cut_dot {l : List Nat} (h : dB l = true) : l = kL l ++ 46 :: mL l := by
  have h' : 46 ∈ l := of_decide_eq_true h
  unfold kL mL
  induction l with
  | nil => simp at h'
  | cons c l ih =>
    by_cases hc : c = 46
    · subst hc; simp
    · have hl : 46 ∈ l := by
        rcases List.mem_cons.mp h' with e | e
        · exact absurd e.symm hc
        · exact e
      have i := ih (decide_eq_true hl) hl
      rw [List.takeWhile_cons, List.dropWhile_cons, if_pos (decide_eq_true hc), if_pos (decide_eq_true hc), List.cons_append, ← i]
/-- whether a word is a test -/
def goodB (z : Str) : Bool := (decide (kS z = starS) || nameB (tl (kS z))) && (!dB (tl z) || nameB (tl (mS z)))
def testOf (z : Str) : Option Tst := if goodB z = true then some (kS z, mS z) else none
theorem kS_nodot {z : Str} (h : dB (tl z) = false) : kS z = z ∧ mS z = Str.empty := by
  obtain ⟨a, b⟩ := cut_nodot h
  exact ⟨str_eq (by rw [tl_kS, a]), str_eq (by rw [tl_mS, b]; rfl)⟩
theorem kS_dot {z : Str} (h : dB (tl z) = true) : z = kS z ++ dotS ++ mS z := by
  refine str_eq ?_
  rw [tl_add, tl_add, tl_kS, tl_mS, tl_dot]
  have := cut_dot h
  rw [List.append_assoc]; exact this
theorem good_mark {z : Str} (h : goodB z = true) : dB (tl z) = !decide (tl (mS z) = []) := by
  unfold goodB at h
  rw [Bool.and_eq_true] at h
  cases hd : dB (tl z) with
  | false =>
    rw [(kS_nodot hd).2]; rfl
  | true =>
    rw [hd] at h
    have h2 : nameB (tl (mS z)) = true := by simpa using h.2
    have h3 := (nameB_iff.mp h2).1
    rw [decide_eq_false (fun e => by rw [e] at h3; simp at h3)]; rfl
def gtS : Str := Str.ofString ">"
def plS : Str := Str.ofString "+"
def lnkB (w : Str) : Bool := decide (w = gtS) || decide (w = plS)
abbrev Rd := Option (List Tst × Bool)
def stepR : Rd → Str → Rd
  | none, _ => none
  | some (ts, lk), w => if (lk && lnkB w) = true then some (ts, false) else match testOf w with | none => none | some x => some (ts ++ [x], true)
def runR (ws : List Str) : Rd := ws.foldl stepR (some ([], false))
theorem fold_none (ws : List Str) : ws.foldl stepR none = none := by
  induction ws with
  | nil => rfl
  | cons w ws ih => exact ih
theorem run_take {ws : List Str} {n : Nat} {w : Str} (h : ws[n]? = some w) : runR (ws.take (n + 1)) = stepR (runR (ws.take n)) w := by
  unfold runR
  rw [List.take_add_one, h, List.foldl_append]; rfl
theorem run_none {ws : List Str} {n : Nat} (h : runR (ws.take n) = none) : runR ws = none := by
  unfold runR at h ⊢
  rw [← List.take_append_drop n ws, List.foldl_append, h, fold_none]
def rdT (ws : List Str) : Option (List Tst) := match runR ws with
  | some (ts, true) => if ts.length ≤ 4 then some ts else none
  | _ => none
theorem step_len {s : Rd} {w : Str} {ts : List Tst} {lk : Bool} (h : stepR s w = some (ts, lk)) : ∃ ts' lk', s = some (ts', lk') ∧ ts.length ≤ ts'.length + 1 ∧ (ts' ≠ [] → ts ≠ []) ∧ (ts' = [] → lk' = false → ts ≠ []) := by
  cases s with
  | none => cases h
  | some p =>
    obtain ⟨ts', lk'⟩ := p
    simp only [stepR] at h
    refine ⟨ts', lk', rfl, ?_⟩
    split at h
    · rename_i hk
      cases h
      rw [Bool.and_eq_true] at hk
      exact ⟨Nat.le_succ _, fun h => h, fun _ h => by rw [hk.1] at h; cases h⟩
    · split at h
      · cases h
      · cases h
        exact ⟨by rw [List.length_append]; exact Nat.le_refl _, fun _ => by simp, fun _ _ => by simp⟩
end K11

set_option maxRecDepth 100000
set_option maxHeartbeats 4000000
namespace K11
open PySem PySem.Spec PyProof.Rows L2
theorem lt_nil (x : Nat) : decide (([] : List Nat) < [x]) = true := by simp
theorem cut_one (z : Str) {A R : List Nat} (h : tl z = A ++ R) : tl (cutS z (some (A.length : Int)) (some ((A.length : Int) + 1))) = R.take 1 := by
  have hl := tl_len z
  rw [h, List.length_append] at hl
  rw [show ((A.length : Int) + 1) = ((A.length + 1 : Nat) : Int) by omega, cut_tl, h, Nat.min_eq_left (show A.length ≤ z.length by omega), List.drop_left]
  cases R with
  | nil => simp
  | cons c r => simp only [List.length_cons] at hl; rw [Nat.min_eq_left (by omega), show A.length + 1 - A.length = 1 by omega]

theorem share {G E : Prop} (hE : E) (h : E → G) : G := h hE
theorem eqE (z : Str) : decide (V.str z = V.str (Str.ofString "")) = decide (tl z = []) := by
  rw [eqT, show tl (Str.ofString "") = [] by decide +kernel]
section
variable {P : Program} {w : World} {K : PySem.W.Frag} {mg : Str → Option Value} {base : Heap} {t1 t2 t3 t4 t5 t6 : Tok}
/-! ### is_letter -/
def spLet (f : Nat → Bool) : Sp := fun vs H Q _ => ∃ (c : Str), vs = [.str c] ∧ ((tl c = [] ∧ Q (.bl false) H) ∨ ∃ x, tl c = [x] ∧ Q (.bl (f x)) H)
theorem scLetter : FnScope ["char"] ["char"] (defScope sLetter) := ⟨rfl, rfl, rfl, by decide +kernel, rfl, by decide +kernel, by decide +kernel⟩
theorem ok_letter {f : Addr} {fd : FuncData} (F : Fun K "is_letter" "is_letter" sLetter f fd) : FnOk P w K mg base CX0 1 f fd ["char"] (spLet isL) := by
  refine F.ok scLetter (fun vs H Q E h => ?_) (fun cdv A outer s H vs Q E hr h => ?_)
  · obtain ⟨c, rfl, _⟩ := h; rfl
  · obtain ⟨c, rfl, h⟩ := h
    refine ⟨_, pss_one (ps_ret (pe_chain op_le_str op_le_str pe_str (pv 0) pe_str)), ?_⟩
    rcases h with ⟨hc, q⟩ | ⟨x, hc, q⟩
    · refine ⟨.str c, rfl, _, c, rfl, rfl, _, rfl, ?_⟩
      have e : (!decide (c.cps.toList < (Str.ofString "a").cps.toList)) = false := by rw [show c.cps.toList = [] from hc]; decide
      rw [e]; exact iteF q
    · refine ⟨.str c, rfl, _, c, rfl, rfl, _, rfl, ?_⟩
      have e : (!decide (c.cps.toList < (Str.ofString "a").cps.toList)) = decide (97 ≤ x) := by rw [show c.cps.toList = [x] from hc, show (Str.ofString "a").cps.toList = [97] by decide +kernel, lt_one, Bool.not_not]
      have e2 : (!decide ((Str.ofString "z").cps.toList < c.cps.toList)) = decide (x ≤ 122) := by rw [show c.cps.toList = [x] from hc, show (Str.ofString "z").cps.toList = [122] by decide +kernel, lt_one, Bool.not_not]
      rw [e]
      refine ite2 (fun h => ?_) (fun h => ?_)
      · refine ⟨c, _, rfl, rfl, ?_⟩
        rw [e2]; unfold isL at q; rw [h, Bool.true_and] at q; exact q
      · have h' : decide (97 ≤ x) = false := by simpa using h
        unfold isL at q; rw [h', Bool.false_and] at q; exact q
/-! ### name_end -/
/-- what stands at the end of a run -/
def Stops (f : Nat → Bool) (R : List Nat) : Prop := ∀ c r, R = c :: r → f c = false
def spEnd : Sp := fun vs H Q _ => ∃ (z : Str) (A N R : List Nat), vs = [.str z, .int (A.length : Int)] ∧ tl z = A ++ (N ++ R) ∧ (∀ c ∈ N, isL c = true) ∧ N.length ≤ 8 ∧ (N.length = 8 ∨ Stops isL R) ∧ z.length ≤ 1000000 ∧ Q (.int ((A.length + N.length : Nat) : Int)) H
theorem scEnd : FnScope ["text", "start", "end"] ["text", "start"] (defScope sNameEnd) := ⟨rfl, rfl, rfl, by decide +kernel, rfl, by decide +kernel, by decide +kernel⟩
theorem ok_end {f f_is_letter : Addr} {fd fd_is_letter : FuncData} (Z : Cst mg t1 t2 t3 t4 t5 t6) (F : Fun K "name_end" "name_end" sNameEnd f fd)
    (F_is_letter : Fun K "is_letter" "is_letter" sLetter f_is_letter fd_is_letter) (b_is_letter : Binds K fd_is_letter ["char"] []) (g_is_letter : mg "is_letter" = some (.ref f_is_letter)) :
    FnOk P w K mg base CX0 2 f fd ["text", "start"] spEnd := by
  have G_is_letter : FnOk P w K mg base CX0 1 f_is_letter fd_is_letter ["char"] (spLet isL) := ok_letter F_is_letter
  refine F.ok scEnd (fun vs H Q E h => ?_) (fun cdv A0 outer s H vs Q E hr h => ?_)
  · obtain ⟨z, A, N, R, rfl, _⟩ := h; rfl
  · obtain ⟨z, A, N, R, rfl, hz, hN, h8, hR, hl, q⟩ := h
    refine ⟨_, (pss_cons (ps_set (i := 2) scEnd.nd rfl (.inl rfl) (pv 1))
      (pss_cons (ps_while (PassesOwn.never) (PW.pt (pw_and (pt_cmpR op_lt (pe_op op_sub (pv 2) (pv 1)) (pe_glob (v := .int 8) (by rfl) Z.g_LONGEST_NAME ⟨_, rfl⟩) (nomark _)) (pw_and1 (pt_val (pe_call G_is_letter hr (by rfl) g_is_letter F_is_letter.kp b_is_letter .nil pass0 (pa_cons (pe_slice sl_str (pv 0) (po_some (pv 2)) (po_some (pe_op op_add (pv 2) pe_int))) pa_nil))))))
      (pss_one (ps_set (i := 2) scEnd.nd rfl (.inl rfl) (pe_op op_add (pv 2) pe_int))))
      (pss_one (ps_ret (pv 2))))), ?_⟩
    have hzl := tl_len z
    have hsl : z.length ≤ sizeLine := Nat.le_trans hl (by decide)
    refine ⟨.int (A.length : Int), rfl, ?_⟩
    refine ⟨fun m σ H' => ∃ i, m = N.length - i ∧ i ≤ N.length ∧ σ = [some (.str z), some (.int (A.length : Int)), some (.int ((A.length + i : Nat) : Int))] ∧ H' = H, ⟨_, 0, rfl, Nat.zero_le _, rfl, rfl⟩, ?_⟩
    rintro m σ H' ⟨i, rfl, hi, rfl, rfl⟩
    refine ⟨.int ((A.length + i : Nat) : Int), rfl, .int (A.length : Int), rfl, _, _, rfl, rfl, _, 8, rfl, rfl, _, rfl, ite2 (fun h => ?_) (fun h => iteF ?_)⟩
    · have hi8 : i < 8 := by
        have h1 := of_decide_eq_true h; omega
      have hsp : tl z = (A ++ N.take i) ++ (N.drop i ++ R) := by rw [hz, List.append_assoc, ← List.append_assoc (N.take i), List.take_append_drop]
      have hal : (A ++ N.take i).length = A.length + i := by rw [List.length_append, List.length_take, Nat.min_eq_left hi]
      have hc := cut_one z hsp
      rw [hal] at hc
      refine ⟨.str z, rfl, .int ((A.length + i : Nat) : Int), rfl, _, rfl, .int ((A.length + i : Nat) : Int), rfl, _, 1, rfl, rfl, _, rfl, z, rfl, hsl, _, rfl, ?_⟩
      by_cases hin : i < N.length
      · have hd : N.drop i = (N[i]'hin) :: N.drop (i + 1) := List.drop_eq_getElem_cons hin
        rw [hd] at hc
        refine .inr ⟨_, hc, _, rfl, ?_⟩
        rw [hN _ (List.getElem_mem hin)]
        refine iteT ⟨fun σ' H'' => σ' = [some (.str z), some (.int (A.length : Int)), some (.int ((A.length + (i + 1) : Nat) : Int))] ∧ H'' = H', fun σ' H'' ⟨e1, e2⟩ => ⟨N.length - (i + 1), by omega, i + 1, rfl, hin, e1, e2⟩, ?_⟩
        exact ⟨.int ((A.length + i : Nat) : Int), rfl, _, 1, rfl, rfl, by rw [show ((A.length + (i + 1) : Nat) : Int) = ((A.length + i : Nat) : Int) + 1 by omega]; rfl, rfl⟩
      · obtain rfl : i = N.length := by omega
        have hst : Stops isL R := by rcases hR with h | h; (omega); (exact h)
        rw [List.drop_length, List.nil_append] at hc
        cases R with
        | nil => exact .inl ⟨hc, _, rfl, iteF ⟨_, rfl, q⟩⟩
        | cons c r =>
          refine .inr ⟨c, hc, _, rfl, ?_⟩
          rw [hst c r rfl]
          exact iteF ⟨_, rfl, q⟩
    · have hi8 : i = N.length := by
        have h1 : ¬ (((A.length + i : Nat) : Int) - (A.length : Int) < 8) := fun z => h (decide_eq_true z)
        omega
      subst hi8
      exact ⟨_, rfl, q⟩

/-! ### is_name -/
theorem end_split (l : List Nat) : ∃ N R, l = N ++ R ∧ (∀ c ∈ N, isL c = true) ∧ N.length ≤ 8 ∧ (N.length = 8 ∨ Stops isL R) := by
  have key : ∀ (n : Nat) (l : List Nat), ∃ N R, l = N ++ R ∧ (∀ c ∈ N, isL c = true) ∧ N.length ≤ n ∧ (N.length = n ∨ Stops isL R) := by
    intro n
    induction n with
    | zero => exact fun l => ⟨[], l, rfl, fun c h => absurd h List.not_mem_nil, Nat.le_refl _, .inl rfl⟩
    | succ n ih =>
      intro l
      cases l with
      | nil => exact ⟨[], [], rfl, fun c h => absurd h List.not_mem_nil, Nat.zero_le _, .inr fun c r h => by cases h⟩
      | cons c l =>
        cases hc : isL c with
        | false => exact ⟨[], c :: l, rfl, fun c h => absurd h List.not_mem_nil, Nat.zero_le _, .inr fun d r h => by cases h; exact hc⟩
        | true =>
          obtain ⟨N, R, e, h1, h2, h3⟩ := ih l
          refine ⟨c :: N, R, by rw [e]; rfl, fun d hd => ?_, by rw [List.length_cons]; omega, ?_⟩
          · rcases List.mem_cons.mp hd with rfl | h
            · exact hc
            · exact h1 d h
          · rcases h3 with h | h
            · exact .inl (by rw [List.length_cons, h])
            · exact .inr h
  exact key 8 l
theorem name_split {l N R : List Nat} (e : l = N ++ R) (h1 : ∀ c ∈ N, isL c = true) (h2 : N.length ≤ 8) (h3 : N.length = 8 ∨ Stops isL R) (hne : l ≠ []) : nameB l = decide ((0 : Int) + ((N.length : Nat) : Int) = ((l.length : Nat) : Int)) := by
  cases R with
  | nil =>
    rw [List.append_nil] at e
    subst e
    rw [decide_eq_true (by omega)]
    unfold nameB
    rw [decide_eq_true (by have := List.length_pos_iff.mpr hne; omega), decide_eq_true h2]
    simp only [Bool.true_and]
    exact List.all_eq_true.mpr h1
  | cons c R =>
    have hl : l.length = N.length + (R.length + 1) := by rw [e, List.length_append, List.length_cons]
    rw [decide_eq_false (by omega)]
    unfold nameB
    rcases h3 with h | h
    · rw [show decide (l.length ≤ 8) = false from decide_eq_false (by omega)]; simp
    · have hc := h c R rfl
      have : l.all isL = false := by rw [e, List.all_append, List.all_cons, hc]; simp
      rw [this]; simp
def spIsName : Sp := fun vs H Q _ => ∃ (z : Str), vs = [.str z] ∧ z.length ≤ 1000 ∧ Q (.bl (nameB (tl z))) H
theorem scIsName : FnScope ["text"] ["text"] (defScope sIsName) := ⟨rfl, rfl, rfl, by decide +kernel, rfl, by decide +kernel, by decide +kernel⟩
theorem ok_isname {f f_name_end f_is_letter : Addr} {fd fd_name_end fd_is_letter : FuncData} (B : Blt mg) (Z : Cst mg t1 t2 t3 t4 t5 t6) (F : Fun K "is_name" "is_name" sIsName f fd)
    (F_name_end : Fun K "name_end" "name_end" sNameEnd f_name_end fd_name_end) (b_name_end : Binds K fd_name_end ["text", "start"] []) (g_name_end : mg "name_end" = some (.ref f_name_end))
    (F_is_letter : Fun K "is_letter" "is_letter" sLetter f_is_letter fd_is_letter) (b_is_letter : Binds K fd_is_letter ["char"] []) (g_is_letter : mg "is_letter" = some (.ref f_is_letter)) :
    FnOk P w K mg base CX0 3 f fd ["text"] spIsName := by
  have G_name_end : FnOk P w K mg base CX0 2 f_name_end fd_name_end ["text", "start"] spEnd := ok_end Z F_name_end F_is_letter b_is_letter g_is_letter
  refine F.ok scIsName (fun vs H Q E h => ?_) (fun cdv A0 outer s H vs Q E hr h => ?_)
  · obtain ⟨z, rfl, _⟩ := h; rfl
  · obtain ⟨z, rfl, hz, q⟩ := h
    refine ⟨_, (pss_one (ps_ret (pe_and (pe_cmpR op_ne (pv 0) pe_str (nomark _)) (pe_one (pe_cmpR op_eq (pe_call G_name_end hr (by rfl) g_name_end F_name_end.kp b_name_end .nil pass0 (pa_cons (pv 0) (pa_cons pe_int pa_nil))) (pe_callB call_len (by rfl) B.len PySem.boot_len (pa_cons (pv 0) pa_nil)) (nomark _)))))), ?_⟩
    have hl := tl_len z
    obtain ⟨N, R, e, h1, h2, h3⟩ := end_split (tl z)
    refine ⟨.str z, rfl, rfl, _, rfl, ?_⟩
    rw [eqE]
    by_cases hne : tl z = []
    · rw [decide_eq_true hne]
      rw [hne] at q
      exact iteF q
    · rw [decide_eq_false hne]
      refine iteT ⟨.str z, rfl, z, [], N, R, rfl, by rw [List.nil_append]; exact e, h1, h2, h3, by omega, .str z, rfl, .str z, z.length, rfl, ⟨by rw [sizeLine_eq]; omega, rfl⟩, rfl, ?_⟩
      rw [name_split e h1 h2 h3 hne, hl] at q
      rw [eqI]
      have e0 : ((([] : List Nat).length + N.length : Nat) : Int) = (0 : Int) + ((N.length : Nat) : Int) := by simp
      rw [e0]
      exact q
/-! ### _read_test -/
def TstAt (H : Hp) (v : V) (x : Tst) : Prop := ∃ t, v = .ref t ∧ H t = some (.tup [.str x.1, .str x.2])
def spTest : Sp := fun vs H Q _ => ∃ (z : Str), vs = [.str z] ∧ z.length ≤ 1000 ∧ (testOf z = none → ∀ H', Same H H' → Q .non H') ∧ ∀ x, testOf z = some x → ∀ H' t, Same H H' → H' t = some (.tup [.str x.1, .str x.2]) → Q (.ref t) H'
theorem scTest : FnScope ["word", "kind", "dot", "mark"] ["word"] (defScope sTest) := ⟨rfl, rfl, rfl, by decide +kernel, rfl, by decide +kernel, by decide +kernel⟩
theorem part_word (z : Str) : Txt.partition z dotS = (kS z, if dB (tl z) = true then dotS else Str.empty, mS z) := by
  cases hd : dB (tl z) with
  | false =>
    obtain ⟨a, b⟩ := kS_nodot hd
    have h := TL.partition_none (y := dotS) (s := 46) (S := []) tl_dot (a := z) (of_decide_eq_false hd)
    rw [h, a, b]; rfl
  | true =>
    have h := TL.partition_app (y := dotS) (s := 46) (S := []) tl_dot (a := kS z) (b := mS z) (by rw [show TL.tl (kS z) = kL (tl z) from tl_kS z]; exact kL_free _)
    rw [← kS_dot hd] at h
    rw [h]; rfl
theorem parts_len (z : Str) : (kS z).length ≤ z.length ∧ (mS z).length ≤ z.length := by
  have h1 := tl_len z
  rw [← tl_len (kS z), ← tl_len (mS z), tl_kS, tl_mS]
  cases hd : dB (tl z) with
  | false => obtain ⟨a, b⟩ := cut_nodot hd; rw [a, b]; exact ⟨Nat.le_of_eq h1, Nat.zero_le _⟩
  | true =>
    have h2 := congrArg List.length (cut_dot hd)
    rw [List.length_append, List.length_cons] at h2
    omega
theorem ok_test {f f_is_name f_name_end f_is_letter : Addr} {fd fd_is_name fd_name_end fd_is_letter : FuncData} (B : Blt mg) (Z : Cst mg t1 t2 t3 t4 t5 t6) (F : Fun K "_read_test" "_read_test" sTest f fd)
    (F_is_name : Fun K "is_name" "is_name" sIsName f_is_name fd_is_name) (b_is_name : Binds K fd_is_name ["text"] []) (g_is_name : mg "is_name" = some (.ref f_is_name))
    (F_name_end : Fun K "name_end" "name_end" sNameEnd f_name_end fd_name_end) (b_name_end : Binds K fd_name_end ["text", "start"] []) (g_name_end : mg "name_end" = some (.ref f_name_end))
    (F_is_letter : Fun K "is_letter" "is_letter" sLetter f_is_letter fd_is_letter) (b_is_letter : Binds K fd_is_letter ["char"] []) (g_is_letter : mg "is_letter" = some (.ref f_is_letter)) :
    FnOk P w K mg base CX0 4 f fd ["word"] spTest := by
  have G_is_name : FnOk P w K mg base CX0 3 f_is_name fd_is_name ["text"] spIsName := ok_isname B Z F_is_name F_name_end b_name_end g_name_end F_is_letter b_is_letter g_is_letter
  refine F.ok scTest (fun vs H Q E h => ?_) (fun cdv A0 outer s H vs Q E hr h => ?_)
  · obtain ⟨z, rfl, _⟩ := h; rfl
  · obtain ⟨z, rfl, hzl, qn, qs⟩ := h
    refine ⟨_, (pss_cons (ps_asg (pe_partition (pv 0) pe_str) (pg_tup rfl (pgs_cons (pg_name (i := 1) scTest.nd rfl (.inl rfl)) (pgs_cons (pg_name (i := 2) scTest.nd rfl (.inl rfl)) (pgs_cons (pg_name (i := 3) scTest.nd rfl (.inl rfl)) pgs_nil)))))
      (Evl.pss_cut (ps_if (PW.pt (pw_and (pt_cmpR op_ne (pv 1) (pe_glob (v := .str (Str.ofString "*")) (by rfl) Z.g_ANY_KIND ⟨_, rfl⟩) (nomark _)) (pw_and1 (pt_not (pt_val (pe_call G_is_name hr (by rfl) g_is_name F_is_name.kp b_is_name .nil pass0 (pa_cons (pv 1) pa_nil)))))))
      (pss_one (ps_ret pe_non))
      pss_nil)
      (Evl.pss_cut (ps_if (PW.pt (pw_and (pt_cmpR op_ne (pv 2) pe_str (nomark _)) (pw_and1 (pt_not (pt_val (pe_call G_is_name hr (by rfl) g_is_name F_is_name.kp b_is_name .nil pass0 (pa_cons (pv 3) pa_nil)))))))
      (pss_one (ps_ret pe_non))
      pss_nil)
      (pss_one (ps_ret (pe_tup (pa_cons (pv 1) (pa_cons (pv 3) pa_nil)))))))), ?_⟩
    obtain ⟨pl1, pl2⟩ := parts_len z
    refine ⟨.str z, rfl, ⟨z, rfl⟩, z, dotS, rfl, rfl, by decide +kernel, Nat.le_trans hzl (by decide), fun p np => ?_⟩
    rw [part_word z]
    generalize hd : (if dB (tl z) = true then dotS else Str.empty) = d
    have s1 : Same H (upd H p (.tup [.str (kS z), .str d, .str (mS z)])) := same_new np
    refine ⟨p, _, rfl, SqT.of upd_same, rfl, .str (kS z), _, rfl, .str d, _, rfl, .str (mS z), _, rfl, rfl, ?_⟩
    generalize upd H p (.tup [.str (kS z), .str d, .str (mS z)]) = H1 at s1 ⊢
    have e1 : decide (V.str (kS z) = V.str (Str.ofString "*")) = decide (kS z = starS) := by
      refine decide_eq_decide.mpr ⟨fun e => by injection e, fun e => by rw [e]; rfl⟩
    have e2 : decide (V.str d = V.str (Str.ofString "")) = !dB (tl z) := by
      rw [eqE]
      cases hb : dB (tl z) with
      | true => rw [hb, if_pos rfl] at hd; subst hd; rw [tl_dot]; rfl
      | false => rw [hb, if_neg Bool.false_ne_true] at hd; subst hd; rfl
    have two : goodB z = ((decide (kS z = starS) || nameB (tl (kS z))) && (!dB (tl z) || nameB (tl (mS z)))) := rfl
    refine ⟨fun σ H' => σ = [some (.str z), some (.str (kS z)), some (.str d), some (.str (mS z))] ∧ H' = H1 ∧ (decide (kS z = starS) || nameB (tl (kS z))) = true, ?_, ?_⟩
    · refine ⟨.str (kS z), rfl, rfl, _, rfl, ?_⟩
      rw [e1]
      by_cases hs : kS z = starS
      · rw [decide_eq_true hs]
        exact iteF (iteF ⟨rfl, rfl, rfl⟩)
      · rw [decide_eq_false hs]
        refine iteT ⟨.str (kS z), rfl, kS z, rfl, by omega, _, rfl, ?_⟩
        cases hk : nameB (tl (kS z)) with
        | true => exact iteF ⟨rfl, rfl, rfl⟩
        | false =>
          refine iteT (qn ?_ _ s1)
          unfold testOf
          rw [two, decide_eq_false hs, hk]; rfl
    · rintro σ H' ⟨rfl, rfl, hp⟩
      refine ⟨fun σ H2 => σ = [some (.str z), some (.str (kS z)), some (.str d), some (.str (mS z))] ∧ H2 = H' ∧ goodB z = true, ?_, ?_⟩
      · refine ⟨.str d, rfl, rfl, _, rfl, ?_⟩
        rw [e2]
        cases hb : dB (tl z) with
        | false => exact iteF (iteF ⟨rfl, rfl, by rw [two, hp, hb]; rfl⟩)
        | true =>
          refine iteT ⟨.str (mS z), rfl, mS z, rfl, by omega, _, rfl, ?_⟩
          cases hm : nameB (tl (mS z)) with
          | true => exact iteF ⟨rfl, rfl, by rw [two, hp, hm, Bool.or_true]; rfl⟩
          | false =>
            refine iteT (qn ?_ _ s1)
            unfold testOf
            rw [two, hp, hb, hm]; rfl
      · rintro σ H2 ⟨rfl, rfl, hg⟩
        exact ⟨.str (kS z), rfl, .str (mS z), rfl, by show 2 ≤ sizeLine; decide, fun t nt => qs (kS z, mS z) (by unfold testOf; rw [if_pos hg]) _ t (s1.trans (same_new nt)) upd_same⟩
end
end K11

set_option maxRecDepth 100000
set_option maxHeartbeats 4000000
namespace K11
open PySem PySem.Spec PyProof.Rows L2
/-! ### an if whose test is shown once -/
def tIfC (c : TT) (t u : TS) : TS := fun D σ H => ∃ Mid : Bool → Hp → Prop, c σ H Mid ∧ (∀ H', Mid true H' → t D σ H') ∧ ∀ H', Mid false H' → u D σ H'
theorem ps_ifC {X : Cx} {c : Expr} {a b : List Stmt} {pos : Pos} {tc : TT} {t u : TS} (hc : PT X c tc) (ha : PSs X a t) (hb : PSs X b u) : PS X (.If c a b pos) (tIfC tc t u) := by
  refine ⟨fun pins s σ H D I h => ?_⟩
  obtain ⟨Mid, hm, h1, h2⟩ := h
  refine wpAny_If (thn (hc.run pins s σ H Mid I hm) fun d s1 ⟨H1, I1, q1⟩ => ?_)
  cases d with
  | true => exact ha.run pins s1 σ H1 D I1 (h1 _ q1)
  | false => exact hb.run pins s1 σ H1 D I1 (h2 _ q1)
/-! ### words of a text -/
theorem spl_len : ∀ (l acc : List Nat), (TL.spl [32] 0 acc l).length = l.count 32 + 1
  | [], acc => by rw [TL.spl_nil]; rfl
  | c :: r, acc => by
    by_cases hc : c = 32
    · subst hc
      have hp : TL.pre [32] (32 :: r) = true := by simp [TL.pre]
      rw [TL.spl_hit hp, List.length_cons]
      show (TL.spl [32] 0 [] r).length + 1 = _
      rw [spl_len r []]
      simp
    · have hp : TL.pre [32] (c :: r) = false := by simp [TL.pre]; exact hc
      rw [TL.spl_miss hp, spl_len r _]
      simp [List.count_cons, hc]
theorem spl_piece : ∀ (l acc : List Nat), ∀ p ∈ TL.spl [32] 0 acc l, p.length ≤ acc.length + l.length
  | [], acc, p, hp => by rw [TL.spl_nil] at hp; rw [List.mem_singleton.mp hp]; simp
  | c :: r, acc, p, hp => by
    by_cases hc : c = 32
    · subst hc
      rw [TL.spl_hit (by simp [TL.pre])] at hp
      rcases List.mem_cons.mp hp with rfl | h
      · simp
      · have := spl_piece r [] p h
        simp at this ⊢; omega
    · rw [TL.spl_miss (by simp [TL.pre]; exact hc)] at hp
      have := spl_piece r _ p hp
      simp at this ⊢; omega
theorem splitW (z : Str) : (Txt.split z blankS).map tl = TL.spl [32] 0 [] (tl z) := by
  have h := TL.split_spl z blankS (by decide +kernel) (TL.kind_ok (by decide +kernel))
  rw [show TL.tl blankS = [32] from tl_blank] at h
  exact h
abbrev wds (z : Str) : List Str := Txt.split z blankS
theorem word_le {z p : Str} (h : p ∈ wds z) : p.length ≤ z.length := by
  have h1 : tl p ∈ TL.spl [32] 0 [] (tl z) := by rw [← splitW]; exact List.mem_map_of_mem h
  have := spl_piece (tl z) [] _ h1
  rw [tl_len, tl_len] at this; simpa using this
theorem wds_len (z : Str) : (wds z).length = (tl z).count 32 + 1 := by
  have h := spl_len (tl z) []
  rw [← splitW, List.length_map] at h; exact h
theorem wds_le (z : Str) : (wds z).length ≤ z.length + 1 := by
  rw [wds_len]
  have h : (tl z).count 32 ≤ (tl z).length := List.count_le_length
  rw [tl_len] at h; omega
theorem wds_pos (z : Str) : 1 ≤ (wds z).length := by rw [wds_len]; omega
def TstsAt (H : Hp) (us : List V) (xs : List Tst) : Prop := us.length = xs.length ∧ ∀ (i : Nat) (v : V) (x : Tst), us[i]? = some v → xs[i]? = some x → TstAt H v x
theorem TstsAt.nil {H : Hp} : TstsAt H [] [] := ⟨rfl, fun i v x h => by simp at h⟩
theorem TstsAt.tups {H H' : Hp} {vs : List V} {xs : List Tst} (h : TstsAt H vs xs) (s : ∀ b ys, H b = some (.tup ys) → H' b = some (.tup ys)) : TstsAt H' vs xs :=
  ⟨h.1, fun i v x a b => by obtain ⟨t, e, ht⟩ := h.2 i v x a b; exact ⟨t, e, s _ _ ht⟩⟩
theorem TstsAt.same {H H' : Hp} {vs : List V} {xs : List Tst} (h : TstsAt H vs xs) (s : Same H H') : TstsAt H' vs xs := h.tups fun _ _ e => s _ _ e
theorem TstsAt.snoc {H : Hp} {vs : List V} {xs : List Tst} {v : V} {x : Tst} (h : TstsAt H vs xs) (ht : TstAt H v x) : TstsAt H (vs ++ [v]) (xs ++ [x]) := by
  obtain ⟨hl, hi⟩ := h
  refine ⟨by rw [List.length_append, List.length_append, hl]; rfl, fun i u y a b => ?_⟩
  by_cases h : i < vs.length
  · rw [List.getElem?_append_left h] at a
    rw [List.getElem?_append_left (by omega)] at b
    exact hi i u y a b
  · have h2 := (List.getElem?_eq_some_iff.mp a).1
    rw [List.length_append, List.length_singleton] at h2
    obtain rfl : i = vs.length := by omega
    rw [List.getElem?_append_right (Nat.le_refl _), Nat.sub_self] at a
    rw [List.getElem?_append_right (by omega), hl, Nat.sub_self] at b
    cases a; cases b
    exact ht
theorem TstsAt.get {H : Hp} {vs : List V} {xs : List Tst} {i : Nat} {x : Tst} (h : TstsAt H vs xs) (hx : xs[i]? = some x) : ∃ v t, vs[i]? = some v ∧ v = .ref t ∧ H t = some (.tup [.str x.1, .str x.2]) := by
  have hi := (List.getElem?_eq_some_iff.mp hx).1
  have hv : vs[i]? = some (vs[i]'(by have := h.1; omega)) := List.getElem?_eq_getElem _
  obtain ⟨t, e, ht⟩ := h.2 i _ x hv hx
  exact ⟨_, t, hv, e, ht⟩

theorem eqStr (a b : Str) : (a == b) = decide (a = b) := by
  by_cases h : a = b
  · rw [h]; simp
  · rw [decide_eq_false h]; exact beq_eq_false_iff_ne.mpr h
theorem inV_syms (z : Str) : inV (.str z) [.str (Str.ofString ">"), .str (Str.ofString "+")] = lnkB z := by
  unfold lnkB
  rw [show Str.ofString ">" = gtS from rfl, show Str.ofString "+" = plS from rfl]
  have h : inV (.str z) [.str gtS, .str plS] = (decide (gtS = z) || decide (plS = z)) := by simp [inV, eqV, eqStr]
  rw [h]
  exact congr (congrArg or (decide_eq_decide.mpr ⟨Eq.symm, Eq.symm⟩)) (decide_eq_decide.mpr ⟨Eq.symm, Eq.symm⟩)
section
variable {P : Program} {w : World} {K : PySem.W.Frag} {mg : Str → Option Value} {base : Heap} {t1 t2 t3 t4 t5 t6 : Tok}
/-! ### _read_tests -/
def spTests : Sp := fun vs H Q _ => ∃ (z : Str), vs = [.str z] ∧ z.length ≤ 900 ∧ (rdT (wds z) = none → ∀ H', Same H H' → Q .non H') ∧
  ∀ ts, rdT (wds z) = some ts → ∀ H' p a b us bs, Same H H' → H' p = some (.tup [.ref a, .ref b]) → H' a = some (.tup us) → TstsAt H' us ts → H' b = some (.tup bs) → Q (.ref p) H'
theorem scTests : FnScope ["text", "tests", "links", "link", "word", "test"] ["text"] (defScope sTests) := ⟨rfl, rfl, rfl, by decide +kernel, rfl, by decide +kernel, by decide +kernel⟩
theorem lnk_ne {w : Str} (h : lnkB w = true) : tl w ≠ [] := by
  unfold lnkB at h
  rw [Bool.or_eq_true, decide_eq_true_eq, decide_eq_true_eq] at h
  rcases h with rfl | rfl <;> decide +kernel
structure Rel (lk : Bool) (ts : List Tst) (lnk : Str) : Prop where
  e : lk = (!decide (ts = []) && decide (tl lnk = []))
  n : ts = [] → tl lnk = []
theorem ok_tests {f f_read_test f_is_name f_name_end f_is_letter : Addr} {fd fd_read_test fd_is_name fd_name_end fd_is_letter : FuncData} (B : Blt mg) (Z : Cst mg t1 t2 t3 t4 t5 t6) (F : Fun K "_read_tests" "_read_tests" sTests f fd)
    (F_read_test : Fun K "_read_test" "_read_test" sTest f_read_test fd_read_test) (b_read_test : Binds K fd_read_test ["word"] []) (g_read_test : mg "_read_test" = some (.ref f_read_test))
    (F_is_name : Fun K "is_name" "is_name" sIsName f_is_name fd_is_name) (b_is_name : Binds K fd_is_name ["text"] []) (g_is_name : mg "is_name" = some (.ref f_is_name))
    (F_name_end : Fun K "name_end" "name_end" sNameEnd f_name_end fd_name_end) (b_name_end : Binds K fd_name_end ["text", "start"] []) (g_name_end : mg "name_end" = some (.ref f_name_end))
    (F_is_letter : Fun K "is_letter" "is_letter" sLetter f_is_letter fd_is_letter) (b_is_letter : Binds K fd_is_letter ["char"] []) (g_is_letter : mg "is_letter" = some (.ref f_is_letter)) :
    FnOk P w K mg base CX0 5 f fd ["text"] spTests := by
  have G_read_test : FnOk P w K mg base CX0 4 f_read_test fd_read_test ["word"] spTest := ok_test B Z F_read_test F_is_name b_is_name g_is_name F_name_end b_name_end g_name_end F_is_letter b_is_letter g_is_letter
  refine F.ok scTests (fun vs H Q E h => ?_) (fun cdv A0 outer s H vs Q E hr h => ?_)
  · obtain ⟨z, rfl, _⟩ := h; rfl
  · obtain ⟨z, rfl, hzl, qn, qs⟩ := h
    refine ⟨_, (pss_cons (ps_set (i := 1) scTests.nd rfl (.inl rfl) (pe_lst pa_nil))
      (pss_cons (ps_set (i := 2) scTests.nd rfl (.inl rfl) (pe_lst pa_nil))
      (pss_cons (ps_set (i := 3) scTests.nd rfl (.inl rfl) (pe_glob (v := .str (Str.ofString "")) (by rfl) Z.g_INSIDE ⟨_, rfl⟩))
      (pss_cons (ps_for (PassesOwn.never) rfl (pi_list (pe_split (pv 0) pe_str)) (pg_name (i := 4) scTests.nd rfl (.inl rfl))
      (pss_one (ps_ifC (PW.pt (pw_and (pt_truth (pv 1) (by intro _; rfl)) (pw_and (pt_cmpR op_eq (pv 3) (pe_glob (v := .str (Str.ofString "")) (by rfl) Z.g_INSIDE ⟨_, rfl⟩) (nomark _)) (pw_and1 (pt_cmpR op_in_seq (pv 4) (pe_tup (pa_cons (pe_glob (v := .str (Str.ofString ">")) (by rfl) Z.g_CHILD ⟨_, rfl⟩) (pa_cons (pe_glob (v := .str (Str.ofString "+")) (by rfl) Z.g_BEHIND ⟨_, rfl⟩) pa_nil))) (by with_unfolding_all rfl))))))
       (pss_one (ps_set (i := 3) scTests.nd rfl (.inl rfl) (pv 4)))
       (pss_cons (ps_set (i := 5) scTests.nd rfl (.inl rfl) (pe_call G_read_test hr (by rfl) g_read_test F_read_test.kp b_read_test .nil pass0 (pa_cons (pv 4) pa_nil)))
        (pss_cons (ps_if (pt_cmpR op_isN (pv 5) pe_non (nomark _))
        (pss_one (ps_ret pe_non))
        pss_nil)
        (Evl.pss_cut (ps_if (pt_truth (pv 1) (by intro _; rfl))
        (pss_one (ps_expr (pe_bm PySem.F.plainAttrs_list PySem.F.slot_list_append PySem.F.type_list_append mt_append (pv 2) (pa_cons (pv 3) pa_nil))))
        pss_nil)
        (pss_cons (ps_expr (pe_bm PySem.F.plainAttrs_list PySem.F.slot_list_append PySem.F.type_list_append mt_append (pv 1) (pa_cons (pv 5) pa_nil)))
        (pss_one (ps_set (i := 3) scTests.nd rfl (.inl rfl) (pe_glob (v := .str (Str.ofString "")) (by rfl) Z.g_INSIDE ⟨_, rfl⟩))))))))))
      (pss_cons (ps_ifC (PW.pt (pw_or (pt_cmpR op_ne (pv 3) (pe_glob (v := .str (Str.ofString "")) (by rfl) Z.g_INSIDE ⟨_, rfl⟩) (nomark _)) (pw_or1 (pt_cmpR op_gt (pe_callB call_len (by rfl) B.len PySem.boot_len (pa_cons (pv 1) pa_nil)) (pe_glob (v := .int 4) (by rfl) Z.g_MOST_TESTS ⟨_, rfl⟩) (nomark _)))))
      (pss_one (ps_ret pe_non))
      pss_nil)
      (pss_one (ps_ret (pe_tup (pa_cons (pe_callTy call_tuple_of (by rfl) B.tuple (by decide +kernel) (pa_cons (pv 1) pa_nil)) (pa_cons (pe_callTy call_tuple_of (by rfl) B.tuple (by decide +kernel) (pa_cons (pv 2) pa_nil)) pa_nil)))))))))), ?_⟩
    have hwl := wds_le z
    refine ⟨Nat.zero_le _, fun ta na => ⟨Nat.zero_le _, fun la nl => ?_⟩⟩
    have s0 : Same H (upd (upd H ta (.lst [])) la (.lst [])) := same_new2 (same_new na) nl
    have nal : ta ≠ la := ne_of_none (o := .lst []) upd_same nl
    have ea : (upd (upd H ta (.lst [])) la (.lst [])) ta = some (.lst []) := by rw [upd_ne nal]; exact upd_same
    have el : (upd (upd H ta (.lst [])) la (.lst [])) la = some (.lst []) := upd_same
    have nl0 : H la = none := by rw [upd_ne (Ne.symm nal)] at nl; exact nl
    generalize upd (upd H ta (.lst [])) la (.lst []) = H0 at s0 ea el ⊢
    refine ⟨.str z, rfl, ⟨_, rfl⟩, z, blankS, rfl, rfl, by decide +kernel, by rw [sizeLine_eq]; omega, fun L nL => ⟨L, rfl, ⟨_, SqL.of upd_same⟩, ?_⟩⟩
    have s1 : Same H0 (upd H0 L (.lst ((wds z).map V.str))) := same_new nL
    have eL : (upd H0 L (.lst ((wds z).map V.str))) L = some (.lst ((wds z).map V.str)) := upd_same
    have naL : L ≠ ta := (ne_of_none ea nL).symm
    have nlL : L ≠ la := (ne_of_none el nL).symm
    refine for_list (K := K) (a := L) (xs := (wds z).map V.str) (fun n σ H' => ∃ (y4 y5 : Option V) (us bs : List V) (lnk : Str) (ts : List Tst) (lk : Bool), σ = [some (.str z), some (.ref ta), some (.ref la), some (.str lnk), y4, y5] ∧ Same H H' ∧ H' L = some (.lst ((wds z).map V.str)) ∧ H' ta = some (.lst us) ∧ TstsAt H' us ts ∧ H' la = some (.lst bs) ∧ runR ((wds z).take n) = some (ts, lk) ∧ Rel lk ts lnk ∧ (0 < n → ts ≠ []) ∧ ts.length ≤ n ∧ bs.length ≤ n)
      ⟨none, none, [], [], Str.ofString "", [], false, rfl, s0.trans s1, eL, s1 _ _ ea, TstsAt.nil, s1 _ _ el, rfl, ⟨rfl, fun _ => by decide +kernel⟩, fun h => absurd h (Nat.lt_irrefl 0), Nat.le_refl _, Nat.le_refl _⟩ (fun n σ H' _ ⟨_, _, _, _, _, _, _, _, _, h, _⟩ => SqL.of h) ?_ ?_
    · rintro n v σ H' hn ⟨y4, y5, us, bs, lnk, ts, lk, rfl, sm, hL, hta, hT, hla, hrun, rel, hne, htl, hbl⟩
      rw [List.getElem?_map] at hn
      cases en : (wds z)[n]? with
      | none => rw [en] at hn; cases hn
      | some wd =>
      rw [en] at hn; cases hn
      have hnl : n < (wds z).length := (List.getElem?_eq_some_iff.mp en).1
      have hwd : wd.length ≤ 1000 := by have := word_le (List.mem_of_getElem? en); omega
      have hstep := run_take en
      rw [hrun] at hstep
      have hul := hT.1
      refine ⟨fun b H2 => Same H' H2 ∧ b = (lk && lnkB wd), ?_, ?_, ?_⟩
      · -- the test
        refine ⟨.ref ta, rfl, _, .inl ⟨_, SqL.of hta, rfl⟩, ?_⟩
        by_cases hts : ts = []
        · have hu0 : us = [] := List.length_eq_zero_iff.mp (by rw [hul, hts]; rfl)
          rw [hu0]
          refine iteF ⟨Same.refl _, ?_⟩
          rw [rel.e, hts]; rfl
        · have hue : (!us.isEmpty) = true := by
            cases us with
            | nil => exact absurd (List.length_eq_zero_iff.mp (by rw [← hul]; rfl)) hts
            | cons _ _ => rfl
          rw [hue]
          refine iteT ⟨.str lnk, rfl, rfl, _, rfl, ?_⟩
          rw [eqE]
          by_cases hk : tl lnk = []
          · rw [decide_eq_true hk]
            refine iteT ⟨.str wd, rfl, by show 2 ≤ sizeLine; decide, fun p np => ?_⟩
            refine ⟨p, _, rfl, .inr (SqT.of upd_same), rfl, rfl, ?_⟩
            refine ⟨_, rfl, same_new np, ?_⟩
            rw [inV_syms, rel.e, decide_eq_false hts, decide_eq_true hk]; rfl
          · rw [decide_eq_false hk]
            refine iteF ⟨Same.refl _, ?_⟩
            rw [rel.e, decide_eq_false hk, Bool.and_false]; rfl
      · -- a link
        rintro H2 ⟨s2, hb⟩
        have hb' := hb.symm
        have hst : stepR (some (ts, lk)) wd = some (ts, false) := by simp only [stepR]; rw [if_pos hb']
        rw [hst] at hstep
        rw [Bool.and_eq_true] at hb'
        have hts : ts ≠ [] := fun h => by rw [rel.e, h] at hb'; exact absurd hb'.1 (by simp)
        exact ⟨.str wd, rfl, _, _, us, bs, wd, ts, false, rfl, sm.trans s2, s2 _ _ hL, s2 _ _ hta, hT.same s2, s2 _ _ hla, hstep, ⟨by rw [decide_eq_false (lnk_ne hb'.2), Bool.and_false], fun h => absurd h hts⟩, fun _ => hts, by omega, by omega⟩
      · -- a test
        rintro H2 ⟨s2, hb⟩
        have hst : stepR (some (ts, lk)) wd = (match testOf wd with | none => none | some x => some (ts ++ [x], true)) := by simp only [stepR]; rw [if_neg (by rw [← hb]; exact Bool.false_ne_true)] <;> rfl
        rw [hst] at hstep
        have sm2 := sm.trans s2
        refine ⟨.str wd, rfl, wd, rfl, hwd, fun hno H3 s3 => ?_, fun x hx H3 t s3 ht => ?_⟩
        · refine ⟨.non, rfl, rfl, _, rfl, iteT (qn ?_ _ (sm2.trans s3))⟩
          rw [hno] at hstep
          have h0 := run_none hstep
          unfold rdT; rw [h0]
        · refine ⟨.ref t, rfl, rfl, _, rfl, iteF ?_⟩
          rw [hx] at hstep
          have sm3 := sm2.trans s3
          have s23 := s2.trans s3
          have hta3 := s23 _ _ hta
          have hla3 := s23 _ _ hla
          have hL3 := s23 _ _ hL
          have hT3 := hT.same s23
          refine ⟨fun σ H4 => ∃ bs', σ = [some (.str z), some (.ref ta), some (.ref la), some (.str lnk), some (.str wd), some (.ref t)] ∧ Same H H4 ∧ SameT H3 H4 ∧ H4 L = some (.lst ((wds z).map V.str)) ∧ H4 ta = some (.lst us) ∧ H4 la = some (.lst bs') ∧ bs'.length ≤ n + 1, ?_, ?_⟩
          · refine ⟨.ref ta, rfl, _, .inl ⟨_, SqL.of hta3, rfl⟩, ite2 (fun _ => ?_) (fun _ => ?_)⟩
            · refine ⟨.ref la, rfl, .inl ⟨rfl, _, SqL.of hla3⟩, .str lnk, rfl, la, _, _, rfl, rfl, hla3, small1000 (by omega), ?_⟩
              exact ⟨_, rfl, same_at sm3 nl0, SameT.lst hla3, by rw [upd_ne nlL]; exact hL3, by rw [upd_ne nal]; exact hta3, upd_same, by rw [List.length_append]; show _ + 1 ≤ _; omega⟩
            · exact ⟨bs, rfl, sm3, SameT.refl _, hL3, hta3, hla3, by omega⟩
          · rintro σ H4 ⟨bs', rfl, sm4, t34, hL4, hta4, hla4, hbl4⟩
            refine ⟨.ref ta, rfl, .inl ⟨rfl, _, SqL.of hta4⟩, .ref t, rfl, ta, us, .ref t, rfl, rfl, hta4, small1000 (by omega), ?_⟩
            have tt : SameT H4 (upd H4 ta (.lst (us ++ [.ref t]))) := SameT.lst hta4
            have t35 := t34.trans tt
            refine ⟨_, _, us ++ [.ref t], bs', Str.ofString "", ts ++ [x], true, rfl, same_at sm4 na, by rw [upd_ne naL]; exact hL4, upd_same, (hT3.tups t35).snoc ⟨t, rfl, t35 _ _ ht⟩, by rw [upd_ne (Ne.symm nal)]; exact hla4, hstep, ⟨?_, fun h => absurd h (by simp)⟩, fun _ => by simp, by rw [List.length_append]; show _ + 1 ≤ _; omega, hbl4⟩
            rw [decide_eq_false (by simp), decide_eq_true (show tl (Str.ofString "") = [] by decide +kernel)]; rfl
    · rintro σ H' ⟨y4, y5, us, bs, lnk, ts, lk, rfl, sm, hL, hta, hT, hla, hrun, rel, hne, htl, hbl⟩
      rw [List.length_map, List.take_length] at hrun
      rw [List.length_map] at hne
      have hts : ts ≠ [] := hne (wds_pos z)
      have hul := hT.1
      have hlk : lk = decide (tl lnk = []) := by rw [rel.e, decide_eq_false hts]; rfl
      refine ⟨fun b H2 => H2 = H' ∧ b = (!lk || decide (4 < ts.length)), ?_, ?_, ?_⟩
      · refine ⟨.str lnk, rfl, rfl, _, rfl, ?_⟩
        rw [eqE, ← hlk]
        cases lk with
        | false => exact iteT ⟨rfl, rfl⟩
        | true =>
          refine iteF ⟨.ref ta, rfl, .ref ta, us.length, rfl, .inl ⟨_, SqL.of hta, rfl⟩, _, 4, rfl, rfl, _, rfl, rfl, ?_⟩
          rw [hul]
          show decide ((ts.length : Int) > 4) = decide (4 < ts.length)
          exact decide_eq_decide.mpr (by omega)
      · rintro H2 ⟨rfl, hb⟩
        refine qn ?_ _ sm
        unfold rdT; rw [hrun]
        cases lk with
        | false => rfl
        | true =>
          have h4 : ¬ ts.length ≤ 4 := by have := of_decide_eq_true (hb.symm); omega
          simp only; rw [if_neg h4]
      · rintro H2 ⟨rfl, hb⟩
        have hb' := hb.symm
        rw [Bool.or_eq_false_iff] at hb'
        have hl1 : lk = true := by simpa using hb'.1
        have h4 : ts.length ≤ 4 := by have := of_decide_eq_false hb'.2; omega
        refine ⟨.ref ta, rfl, ta, us, rfl, .inl ⟨SqL.of hta, fun a na2 => ?_⟩⟩
        have sa := same_new na2 (o := .tup us)
        refine ⟨.ref la, rfl, la, _, rfl, .inl ⟨SqL.of (sa _ _ hla), fun b nb => ?_⟩⟩
        have sb := same_new nb (o := .tup bs)
        have hrd : rdT (wds z) = some ts := by
          unfold rdT; rw [hrun, hl1]; simp only; rw [if_pos h4]
        exact ⟨by show 2 ≤ sizeLine; decide, fun p np => qs ts hrd _ p a b us bs (((sm.trans sa).trans sb).trans (same_new np)) upd_same (same_new np _ _ (sb _ _ upd_same)) (((hT.same sa).same sb).same (same_new np)) (same_new np _ _ upd_same)⟩
end
end K11

set_option maxRecDepth 100000
set_option maxHeartbeats 4000000
namespace K11
open PySem PySem.Spec PyProof.Rows L2 PySem.W PySem.Calls
/-! isinstance of a caught error whose own dict stands -/
section
variable {prog : Program} {w : World} {A : Around} {E : Value → Shared → Prop} {s : Shared} {K : Frag} {x D : Addr} {ox : Obj} {od : Option Obj}
theorem find_cls (hc : (clsIn K D).isSome = true) (C : L2.ExcC K D) : findObj K D od "__class__" = some (.bind (.builtin "getset_descriptor.__get__") (.builtin "object.__class__")) := by
  obtain ⟨cd, e⟩ := Option.isSome_iff_exists.mp hc
  unfold findObj
  rw [e, Option.bind_some, C.ha, Option.bind_some]; simp [C.hn, C.ht]
theorem ask_cls {Q : Option Value → Shared → Prop} (C : L2.ExcC K D) (X : K.In s.heap) (I : InstAt s.heap x ox D od) (h : Q (some (.ref D)) { s with toks := s.toks + 1 }) :
    wpAny (model prog w) A (getAttr? (.ref x) "__class__") Q E s := by
  have hf := find_cls (od := od) (by obtain ⟨c0, e0, _⟩ := any_some C.hd; rw [e0]; rfl) C
  obtain ⟨hp, g, dr, tk, os⟩ := s
  have A0 := I.type (M := model prog w); have A1 := looks_findIn (M := model prog w) X C.hg; have A2 := looks_findIn (M := model prog w) X C.hk
  have A3 := looks_find (M := model prog w) X I hf; have A4 : Looks (model prog w) hp (isInstance (.ref x) (.type "BaseException")) true := A0.andThen (looks_subIn X C.hs)
  have b0 : (false && onTheHeap (Value.builtin "BaseException.__getattribute__")) = false := rfl
  have b2 : (Value.builtin "BaseException.__getattribute__" == Value.builtin "object.__getattribute__") = false := by decide +kernel
  have b1 : (onTheHeap (Value.ref D) && Value.builtin "BaseException.__getattribute__" == Value.builtin "object.__getattribute__") = false := by rw [b2]; rfl
  unfold getAttr? getAttrBy? getAttrBy
  refine wpAny_bind (wpAny_mkText (wpAny_bind (wpAny_attempt (wpAny_holding (wpAny_bind (A0.at (wpAny_bind (A1.at ?_))))))))
  show wpAny _ _ (if (onTheHeap (Value.ref D) && Value.builtin "BaseException.__getattribute__" == Value.builtin "object.__getattribute__") = true then _ else _) _ _ _
  rw [b1, if_neg Bool.false_ne_true]; unfold getAttrByItsOwn hookBefore
  refine wpAny_bind ?_; rw [if_pos (show onTheHeap (Value.ref D) = true from rfl)]; refine A2.at ?_
  refine wpAny_bind (wpAny_attempt (wpAny_holding ?_)); unfold callGetattribute; rw [b0, if_neg Bool.false_ne_true]; unfold boundAndCalled
  rw [PySem.F.excAttr_ValueError.ga.bind (.ref x)]; refine wpAny_bind (wpAny_pure ?_)
  show wpAny _ _ (call (.builtin "BaseException.__getattribute__") [.ref x, .str "__class__" tk]) _ _ _
  refine wpAny_call (codeAny_call_builtin PySem.F.excAttr_ValueError.ga.plain PySem.F.entry_bexc_ga ?_)
  refine @check_slot (model prog w) _ _ ⟨hp, g, dr, tk + 1, os⟩ "BaseException.__getattribute__" "BaseException" "__getattribute__" (.ref x) [.str "__class__" tk] [] _ (by decide +kernel) (by decide +kernel) A4 (PySem.F.args_bexc_ga (.ref x) (.str "__class__" tk)) ?_
  unfold Builtin.«object.__getattribute__»; refine wpAny_bind (wpAny_of_eq (a := ((Value.ref x : Value), [Value.str "__class__" tk])) (by first | rfl | (simp only [slotArgs]; rfl)) ?_)
  refine wpAny_bind (wpAny_pure (wpAny_bind (A0.at (wpAny_bind (A3.at ?_)))))
  show wpAny _ _ (holding [Value.builtin "object.__class__"] (call (.builtin "getset_descriptor.__get__") [.builtin "object.__class__", .ref x, .ref D]) >>= ret) _ _ _
  refine wpAny_bind (wpAny_holding (wpAny_call (class_get (s := ⟨hp, g, dr, tk + 1, os⟩) (ox := ox) (od := od) X I C.hm ?_))); refine wpAny_pure ?_
  show wpAny _ _ (handedOut (.ref D)) _ _ _; rw [handedOut_of (v := .ref D) rfl]
  first | exact wpAny_pure (wpAny_pure h) | exact wpAny_pure h | exact wpAny_pure (wpAny_bind (wpAny_pure (wpAny_pure h)))
theorem kit_err (C : L2.ExcC K D) : KitX K (.ref x) (.ref D) (fun h => InstAt h x ox D od) := by
  obtain ⟨cd, hc, _⟩ := any_some C.hd
  refine ⟨fun _ _ _ I => I.type, fun M h X _ => ?_, fun h tp dd its n sl X htp => ?_, fun X I k => ask_cls C X I k⟩
  · unfold clsIn at hc
    split at hc
    · rename_i o1 o2 o3 o4 ho
      intro A' Q' E' s' k q; unfold isType loadHead; exact wpAny_bind (wpAny_loadPart (k _ _ (X _ _ ho)) (wpAny_pure q))
    · cases hc
  · refine Bool.eq_false_iff.mpr fun q => ?_
    have e : D = tp := Value.ref.inj (beq_iff_eq.mp q); subst e
    unfold clsIn at hc
    split at hc
    · rename_i o1 o2 o3 o4 ho
      have z := (X _ _ ho).symm.trans htp; cases z
    · cases hc
end
/-- isinstance(e, c), e the caught error at a, of class D, its own dict at dd -/
def rIsD (K : PySem.W.Frag) (D a : Addr) (cls : Value) (d : Option Addr) : List V → Hp → VK → Prop := fun xs H Q => ∃ (c : V) (cv : Value) (b : Bool) (dd : Addr) (fs : List (Str × V)),
  cls = .ref D ∧ xs = [.ref a, c] ∧ (∀ u, RelV c u → u = cv) ∧ kitOne K (.ref D) cv = some b ∧ d = some dd ∧ H dd = some (.xd fs) ∧ Q (.bl b) H
theorem call_isD {X : Cx} {a D : Addr} {oe : Obj} {cls : Value} {d : Option Addr} {pn : List (Addr × Obj)} (C : ExcC X.K D) (hz : Zc cls d oe) (hf : ∃ vs, oe.data = .fields vs) : CallR (X.suite a ((a, oe) :: pn)) (.builtin "isinstance") (rIsD X.K D a cls d) := by
  intro pins s σ H xs us Q I r h
  obtain ⟨c, cv, b, dd, fs, ecl, rfl, hcv, e, ed, ea, q⟩ := h
  subst ecl
  subst ed
  obtain ⟨u1, u2, rfl, r1, r2⟩ := vals2 r
  obtain rfl : u1 = Value.ref a := r1
  have ec := hcv _ r2; subst ec
  obtain ⟨hget, _⟩ := I.pin (a, oe) (List.mem_append_left _ List.mem_cons_self)
  obtain ⟨vs, hv⟩ := hf
  have hx : ObjOk X.prog X.w H s.heap dd (.xd fs) := I.hok dd _ ea
  obtain ⟨mA, hns, hr⟩ := hx
  obtain ⟨od, ho, hl⟩ := lookIn_ns hns
  have J : InstAt s.heap a oe D (some od) := ⟨hget, hz.1, by unfold PySem.W.notCls; rw [hv] <;> rfl, by rw [hz.2]; exact ho⟩
  exact kia_one (kit_err C) I.kIn J e (fun z => nomatch z) fun tk => ⟨.bl b, H, I.kept (t' := tk) fun _ _ z => z, rfl, q⟩
structure BadP (K : PySem.W.Frag) (mg : Str → Option Value) (C fI : Addr) (fd : FuncData) : Prop where
  gC : mg "BadPattern" = some (.ref C)
  oex : OexC K C
  fp : PySem.W.findIn K (.ref C) "text" = some none
  iC : PySem.W.findIn K (.ref C) "__init__" = some (some (.ref fI))
  tI : PySem.W.typeIn K (.ref fI) = some (.type "function")
  F : Fun K "__init__" "BadPattern.__init__" sBPInit fI fd
  b : Binds K fd ["self", "text"] []
section
variable {P : Program} {w : World} {K : PySem.W.Frag} {mg : Str → Option Value} {base : Heap}
theorem scInit : FnScope ["self", "text"] ["self", "text"] (defScope sBPInit) := ⟨rfl, rfl, rfl, by decide +kernel, rfl, by decide +kernel, by decide +kernel⟩
def spInit (K : PySem.W.Frag) (C : Addr) : Sp := fun vs H Q _ => ∃ (a : Addr) (v : V), vs = [.ref a, v] ∧ H a = some (exo a C none) ∧ OexC K C ∧ PySem.W.findIn K (.ref C) "text" = some none ∧
  ∀ d, H d = none → d ≠ a → Q .non (upd (upd H d (exd d [("text", v)])) a (exo a C (some d)))
theorem ok_init {f C : Addr} {fd : FuncData} (F : Fun K "__init__" "BadPattern.__init__" sBPInit f fd) : FnOk P w K mg base CX0 1 f fd ["self", "text"] (spInit K C) := by
  refine F.ok scInit (fun vs H Q E h => ?_) (fun cdv A outer s H vs Q E hr h => ?_)
  · obtain ⟨a, v, rfl, _⟩ := h; rfl
  · obtain ⟨a, v, rfl, ha, o, fp, q⟩ := h
    refine ⟨_, pss_one (ps_ost (pv 0) (pv 1)), ?_⟩
    exact ⟨_, rfl, _, rfl, a, C, rfl, o, fp, .inl ⟨ha, fun dx h1 h2 => q dx h1 h2⟩⟩
/-- raise BadPattern(place): the heap behind it -/
theorem heap_raised {H : Hp} {a d C : Addr} {v : V} (ha : H a = none) (hd : H d = none) (hne : d ≠ a) :
    upd (del (upd (upd (upd H a (exo a C none)) d (exd d [("text", v)])) a (exo a C (some d))) a) d (.xd [("text", v)]) = upd H d (.xd [("text", v)]) := by
  funext b
  by_cases h1 : b = d
  · subst h1; rw [upd_same, upd_same]
  · rw [upd_ne h1, upd_ne h1]
    by_cases h2 : b = a
    · subst h2; rw [del_same, ha]
    · rw [del_ne h2, upd_ne h2, upd_ne h1, upd_ne h2]
theorem raise_bp {C : Addr} {v : V} {H : Hp} {Q : XK} (o : OexC K C) (fp : PySem.W.findIn K (.ref C) "text" = some none) (q : ∀ d, H d = none → Q (.ref C) (some d) (upd H d (.xd [("text", v)]))) :
    [v].length ≤ 1000 ∧ ∀ a, H a = none → spInit K C (.ref a :: ([v] ++ [])) (upd H a (exo a C none))
      (fun u H2 => u = .non ∧ ∃ (d : Addr) (fs : List (Str × V)), H2 a = some (exo a C (some d)) ∧ H2 d = some (exd d fs) ∧ H d = none ∧ Q (.ref C) (some d) (upd (del H2 a) d (.xd fs))) (fun _ _ _ => False) := by
  refine ⟨by show 1 ≤ 1000; decide, fun a ha => ⟨a, v, rfl, upd_same, o, fp, fun d h1 hne => ⟨rfl, d, [("text", v)], upd_same, ?_, ?_, ?_⟩⟩⟩
  · rw [upd_ne hne, upd_same]
  · rw [upd_ne hne] at h1; exact h1
  · rw [upd_ne hne] at h1
    rw [heap_raised ha h1 hne]; exact q d h1
end
/-! ### an attribute among the targets -/
theorem pg_att {X : Cx} {o : Expr} {f : Str} {to : TE} {pos : Pos} (ho : PE X o to)
    (ha : ∀ v, assign (.Attribute o f pos) X.env v = (do
      let ov ← holding [v] (eval o X.env)
      standAt pos.atName
      holding [v, ov] (setAttr ov f v)
      release [v, ov] []) := by intro _; rfl) :
    PG X (.Attribute o f pos) (fun v σ H Q => to σ H fun x H1 => ∃ a C dx fs, x = .ref a ∧ H1 a = some (.ins C dx fs) ∧ Cls X.K C ∧ NoAttr X.K C f ∧ fs.length < 1000 ∧ Q σ (upd H1 a (.ins C dx (putF f v fs)))) := by
  refine ⟨fun pins s σ H v u Q I r h => ?_⟩
  rw [ha]
  refine wpAny_bind (wpAny_holding (thn (ho.run pins s σ H _ I h) fun ov s1 ⟨x, H1, I1, r1, a, C, dx, fs, ex, ea, c, n, l, q⟩ => ?_))
  subst ex
  obtain rfl : ov = Value.ref a := r1
  refine wpAny_bind (wpAny_standAt (wpAny_bind (wpAny_holding (setattr_ok I1 ea c n l r fun s3 I3 => ?_))))
  exact wpAny_release ⟨σ, _, I3, q⟩
structure Txt (K : PySem.W.Frag) (mg : Str → Option Value) (CP : Addr) : Prop where
  cl : Cls K CP
  nT : NoAttr K CP "tests"
  nL : NoAttr K CP "links"
  nX : NoAttr K CP "_text"
  mgC : mg "Pattern" = some (.ref CP)
/-- the class says what isinstance asks -/
structure Isi (K : PySem.W.Frag) (C : Addr) : Prop where
  cl : Cls K C
  ha : PySem.W.findIn K (.ref C) "__class__" = some (some (.builtin "object.__class__"))
  hn : PySem.W.specialIn K (.builtin "object.__class__") "__get__" = some (some (.builtin "getset_descriptor.__get__"))
  ht : PySem.W.takesIn K (.builtin "object.__class__") = some true
  hm : PySem.W.mroIn K C (.type "object") = some true
  ks : PySem.W.kitOne K (.ref C) (.ref C) = some true
theorem str_kit {K : PySem.W.Frag} {C : Addr} : PySem.W.subIn K (.type "str") (.ref C) = some false := R7.sub_str
def PatAt (CP : Addr) (H : Hp) (p : Addr) (ts : List Tst) (z : Str) : Prop := ∃ dx fs a us, H p = some (.ins CP dx fs) ∧ fs.lookup ("tests" : Str) = some (.ref a) ∧ fs.lookup ("_text" : Str) = some (.str z) ∧ H a = some (.tup us) ∧ TstsAt H us ts
theorem PatAt.same {CP : Addr} {H H' : Hp} {p : Addr} {ts : List Tst} {z : Str} (h : PatAt CP H p ts z) (s : Same H H') : PatAt CP H' p ts z := by
  obtain ⟨dx, fs, a, us, h1, h2, h3, h4, h5⟩ := h
  exact ⟨dx, fs, a, us, s _ _ h1, h2, h3, s _ _ h4, h5.same s⟩
section
variable {P : Program} {w : World} {K : PySem.W.Frag} {mg : Str → Option Value} {base : Heap} {t1 t2 t3 t4 t5 t6 : Tok}
/-! ### Pattern.__init__ -/
def spPInit (CP C : Addr) : Sp := fun vs H Q E => ∃ (p dx : Addr) (z : Str), vs = [.ref p, .str z] ∧ H p = some (.ins CP dx []) ∧ z.length ≤ 900 ∧
  (rdT (wds z) = none → ∀ H1 d, Same H H1 → H1 d = none → E (.ref C) (some d) (upd H1 d (.xd [("text", .str z)]))) ∧
  ∀ ts, rdT (wds z) = some ts → ∀ H', (∀ b o, b ≠ p → H b = some o → H' b = some o) → PatAt CP H' p ts z → Q .non H'
theorem scPInit : FnScope ["self", "text", "told"] ["self", "text"] (defScope sPInit) := ⟨rfl, rfl, rfl, by decide +kernel, rfl, by decide +kernel, by decide +kernel⟩
theorem ok_pinit {CP C fI f f_read_tests f_read_test f_is_name f_name_end f_is_letter : Addr} {fd fdI fd_read_tests fd_read_test fd_is_name fd_name_end fd_is_letter : FuncData} (B : Blt mg) (Z : Cst mg t1 t2 t3 t4 t5 t6) (T : Txt K mg CP) (N : BadP K mg C fI fdI) (F : Fun K "__init__" "Pattern.__init__" sPInit f fd)
    (F_read_tests : Fun K "_read_tests" "_read_tests" sTests f_read_tests fd_read_tests) (b_read_tests : Binds K fd_read_tests ["text"] []) (g_read_tests : mg "_read_tests" = some (.ref f_read_tests))
    (F_read_test : Fun K "_read_test" "_read_test" sTest f_read_test fd_read_test) (b_read_test : Binds K fd_read_test ["word"] []) (g_read_test : mg "_read_test" = some (.ref f_read_test))
    (F_is_name : Fun K "is_name" "is_name" sIsName f_is_name fd_is_name) (b_is_name : Binds K fd_is_name ["text"] []) (g_is_name : mg "is_name" = some (.ref f_is_name))
    (F_name_end : Fun K "name_end" "name_end" sNameEnd f_name_end fd_name_end) (b_name_end : Binds K fd_name_end ["text", "start"] []) (g_name_end : mg "name_end" = some (.ref f_name_end))
    (F_is_letter : Fun K "is_letter" "is_letter" sLetter f_is_letter fd_is_letter) (b_is_letter : Binds K fd_is_letter ["char"] []) (g_is_letter : mg "is_letter" = some (.ref f_is_letter)) :
    FnOk P w K mg base (L2.CX P w) 6 f fd ["self", "text"] (spPInit CP C) := by
  have G_read_tests : FnOk P w K mg base CX0 5 f_read_tests fd_read_tests ["text"] spTests := ok_tests B Z F_read_tests F_read_test b_read_test g_read_test F_is_name b_is_name g_is_name F_name_end b_name_end g_name_end F_is_letter b_is_letter g_is_letter
  have GI : FnOk P w K mg base CX0 1 fI fdI ["self", "text"] (spInit K C) := ok_init N.F
  refine F.okX scPInit (fun vs H Q E h => ?_) (fun cdv A0 outer s H vs Q E hr h => ?_)
  · obtain ⟨p, dx, z, rfl, _⟩ := h; rfl
  · obtain ⟨p, dx, z, rfl, hp, hzl, qe, q⟩ := h
    have hr1 : Room 2 _ := hr.mono (by decide)
    refine ⟨_, pss_cons (ps_set (i := 2) scPInit.nd rfl (.inl rfl) (pe_call G_read_tests hr (by rfl) g_read_tests F_read_tests.kp b_read_tests .nil pass0 (pa_cons (pv 1) pa_nil)))
      (pss_cons (ps_if (pt_cmpR op_isN (pv 2) pe_non (nomark _)) (pss_one (ps_raise rfl (takes_of rfl rfl rfl rfl) (pmk_oex N.oex N.iC N.tI GI hr1 N.b .nil pass0 (by rfl) N.gC (pa_cons (pv 1) pa_nil)))) pss_nil)
      (pss_cons (ps_fld (pv 0) (pv 1) rfl)
      (pss_one (ps_asg (pv 2) (pg_tup rfl (pgs_cons (pg_att (pv 0)) (pgs_cons (pg_att (pv 0)) pgs_nil))))))), ?_⟩
    refine ⟨.str z, rfl, z, rfl, hzl, fun hno H1 s1 => ?_, fun ts hts H1 r a b us bs s1 hr1 h1 h2 h3 => ?_⟩
    · refine ⟨.non, rfl, rfl, _, rfl, iteT ⟨_, rfl, raise_bp N.oex N.fp fun d hd => qe hno H1 d s1 hd⟩⟩
    refine ⟨.ref r, rfl, rfl, _, rfl, iteF ?_⟩
    have hp1 := s1 _ _ hp
    have nrp : r ≠ p := ne_of hr1 hp1 (by intro z; cases z)
    refine ⟨.str z, rfl, .ref p, rfl, p, CP, dx, [], rfl, hp1, T.cl, T.nX, by show 0 < 1000; decide, ?_⟩
    have nap : a ≠ p := ne_of h1 hp1 (by intro z; cases z)
    have nbp : b ≠ p := ne_of h3 hp1 (by intro z; cases z)
    refine ⟨.ref r, rfl, r, _, rfl, SqT.of (by rw [upd_ne nrp]; exact hr1), rfl, .ref a, _, rfl, .ref p, rfl, p, CP, dx, _, rfl, upd_same, T.cl, T.nT, by show 1 < 1000; decide, .ref b, _, rfl, .ref p, rfl, p, CP, dx, _, rfl, upd_same, T.cl, T.nL, by show 2 < 1000; decide, rfl, ?_⟩
    have tt : ∀ c ys, H1 c = some (.tup ys) → ∀ o1 o2 o3, upd (upd (upd H1 p o1) p o2) p o3 c = some (.tup ys) := fun c ys h o1 o2 o3 => by
      have : c ≠ p := ne_of h hp1 (by intro z; cases z)
      rw [upd_ne this, upd_ne this, upd_ne this]; exact h
    refine q ts hts _ (fun c o h e => by rw [upd_ne h, upd_ne h, upd_ne h]; exact s1 _ _ e) ⟨dx, _, a, us, upd_same, ?_, ?_, tt _ _ h1 _ _ _, h2.tups fun c ys h => tt _ _ h _ _ _⟩
    · rw [lookup_putF, if_neg (by decide +kernel), lookup_putF, if_pos rfl]
    · rw [lookup_putF, if_neg (by decide +kernel), lookup_putF, if_neg (by decide +kernel), lookup_putF, if_pos rfl]
/-! ### asked, named, len, str, == -/
theorem countT (p : Tst → Bool) (ts : List Tst) {n : Nat} {x : Tst} (h : ts[n]? = some x) : ((ts.take (n + 1)).filter p).length = ((ts.take n).filter p).length + (if p x = true then 1 else 0) := by
  rw [List.take_add_one, h, List.filter_append, List.length_append]
  cases hp : p x <;> simp [hp]
def asks (x : Tst) : Bool := !decide (tl x.2 = [])
def names (x : Tst) : Bool := !decide (x.1 = starS)
def spCount (CP : Addr) (f : List Tst → Nat) : Sp := fun vs H Q _ => ∃ (p : Addr) (ts : List Tst) (z : Str), vs = [.ref p] ∧ PatAt CP H p ts z ∧ ts.length ≤ 4 ∧ ∀ H', Same H H' → Q (.int ((f ts : Nat) : Int)) H'
abbrev nAs : List Str := ["self", "kind", "mark"]
theorem scAsked : FnScope nAs ["self"] (defScope sAsked) := ⟨rfl, rfl, rfl, by decide +kernel, rfl, by decide +kernel, by decide +kernel⟩
theorem scNamed : FnScope nAs ["self"] (defScope sNamed) := ⟨rfl, rfl, rfl, by decide +kernel, rfl, by decide +kernel, by decide +kernel⟩
theorem ok_asked {CP f : Addr} {fd : FuncData} (B : Blt mg) (T : Txt K mg CP) (F : Fun K "asked" "Pattern.asked" sAsked f fd) : FnOk P w K mg base CX0 1 f fd ["self"] (spCount CP fun ts => (ts.filter asks).length) := by
  refine F.ok scAsked (fun vs H Q E h => ?_) (fun cdv A0 outer s H vs Q E hr h => ?_)
  · obtain ⟨p, ts, z, rfl, _⟩ := h; rfl
  · obtain ⟨p, ts, z, rfl, ⟨dx, fs, a, us, hp, f1, f2, ha, hT⟩, h4, q⟩ := h
    refine ⟨_, (pss_one (ps_ret (pe_callB call_len (by rfl) B.len PySem.boot_len (pa_cons (pe_lc (own := [("kind", 1), ("mark", 2)]) (g := gTup K 2 (gCons (gName 1) (gCons (gName 2) gNil))) rfl scAsked.nd (pi_tup (pe_fld (pv 0) rfl)) (blkOk_by (N := nAs) (sc := defScope sAsked) (by decide +kernel)) (fun _ _ _ _ _ => (pg_tup rfl (pgs_cons (pg_name (i := 1) scAsked.nd rfl (.inl rfl)) (pgs_cons (pg_name (i := 2) scAsked.nd rfl (.inl rfl)) pgs_nil)))) (fun _ _ _ _ _ => pts_one (pt_cmpR op_ne (pv 2) pe_str (nomark _))) (fun _ _ _ _ _ => (pv 2))) pa_nil)))), ?_⟩
    refine ⟨.ref p, rfl, p, CP, dx, fs, .ref a, rfl, hp, T.cl, T.nT, f1, a, rfl, ⟨_, SqT.of ha⟩, fun D hD => ?_⟩
    have sD := same_new hD (o := .lst [])
    refine lc_tup (K := K) (a := a) (xs := us) (fun n H' => ∃ ys : List V, H' D = some (.lst ys) ∧ ys.length = ((ts.take n).filter asks).length ∧ Same H H') ⟨[], upd_same, rfl, same_new hD⟩ (fun n H' _ ⟨_, _, _, sm⟩ => SqT.of (sm _ _ ha)) ?_ ?_
    · rintro n v H' hn ⟨ys, hy, hyl, sm⟩
      have hlt : n < ts.length := by have := (List.getElem?_eq_some_iff.mp hn).1; rw [hT.1] at this; exact this
      have hx : ts[n]? = some (ts[n]'hlt) := List.getElem?_eq_getElem _
      generalize ts[n]'hlt = x at hx
      obtain ⟨t, rfl, ht⟩ := hT.2 n v x hn hx
      have hc := countT asks ts hx
      have hle : ((ts.take n).filter asks).length ≤ 4 := Nat.le_trans (List.length_filter_le _ _) (by rw [List.length_take]; omega)
      refine ⟨t, _, rfl, SqT.of (sm _ _ ht), rfl, .str x.1, _, rfl, .str x.2, _, rfl, rfl, rfl, .str x.2, rfl, rfl, _, rfl, ?_⟩
      rw [eqE]
      cases hb : decide (tl x.2 = []) with
      | true =>
        refine iteF ⟨ys, hy, ?_, sm⟩
        rw [hc, hyl]; unfold asks; rw [hb]; rfl
      | false =>
        refine iteT ⟨.str x.2, rfl, ys, hy, small1000 (by omega), ys ++ [.str x.2], upd_same, ?_, same_at sm hD⟩
        rw [hc, List.length_append, hyl]; unfold asks; rw [hb]; rfl
    · rintro H' ⟨ys, hy, hyl, sm⟩
      rw [hT.1, List.take_length] at hyl
      refine ⟨.ref D, ys.length, rfl, .inl ⟨_, SqL.of hy, rfl⟩, ?_⟩
      rw [hyl]
      exact q _ sm
end
end K11

set_option maxRecDepth 100000
set_option maxHeartbeats 4000000
namespace K11
open PySem PySem.Spec PyProof.Rows L2 PySem.W PySem.Calls
def letters : Str := Str.ofString "abcdefghijklmnopqrstuvwxyz"
theorem letters_L : ∀ c ∈ tl letters, isL c = true := by decide +kernel
theorem letters_len : letters.length = 26 := by decide +kernel
theorem letters_all : ∀ k : Nat, k < 26 → 97 + k ∈ tl letters := by decide +kernel
theorem in_letters (c : Nat) : decide (c ∈ letters.cps.toList) = isL c := by
  cases h : isL c with
  | true =>
    refine decide_eq_true ?_
    unfold isL at h
    rw [Bool.and_eq_true, decide_eq_true_iff, decide_eq_true_iff] at h
    have := letters_all (c - 97) (by omega)
    rw [show 97 + (c - 97) = c by omega] at this
    exact this
  | false =>
    refine decide_eq_false fun hm => ?_
    have := letters_L c hm
    rw [h] at this; cases this
theorem nin_letters (c : Nat) : (!decide (c ∈ letters.cps.toList)) = !isL c := by rw [in_letters]

section
variable {P : Program} {w : World} {K : PySem.W.Frag} {mg : Str → Option Value} {base : Heap} {t1 t2 t3 t4 t5 t6 : Tok}
theorem ok_named {CP f : Addr} {fd : FuncData} (B : Blt mg) (Z : Cst mg t1 t2 t3 t4 t5 t6) (T : Txt K mg CP) (F : Fun K "named" "Pattern.named" sNamed f fd) : FnOk P w K mg base CX0 1 f fd ["self"] (spCount CP fun ts => (ts.filter names).length) := by
  refine F.ok scNamed (fun vs H Q E h => ?_) (fun cdv A0 outer s H vs Q E hr h => ?_)
  · obtain ⟨p, ts, z, rfl, _⟩ := h; rfl
  · obtain ⟨p, ts, z, rfl, ⟨dx, fs, a, us, hp, f1, f2, ha, hT⟩, h4, q⟩ := h
    refine ⟨_, (pss_one (ps_ret (pe_callB call_len (by rfl) B.len PySem.boot_len (pa_cons (pe_lc (own := [("kind", 1), ("mark", 2)]) (g := gTup K 2 (gCons (gName 1) (gCons (gName 2) gNil))) rfl scNamed.nd (pi_tup (pe_fld (pv 0) rfl)) (blkOk_by (N := nAs) (sc := defScope sNamed) (by decide +kernel)) (fun _ _ _ _ _ => (pg_tup rfl (pgs_cons (pg_name (i := 1) scNamed.nd rfl (.inl rfl)) (pgs_cons (pg_name (i := 2) scNamed.nd rfl (.inl rfl)) pgs_nil)))) (fun _ _ _ _ _ => pts_one (pt_cmpR op_ne (pv 1) (pe_glob (v := .str (Str.ofString "*")) (by rfl) Z.g_ANY_KIND ⟨_, rfl⟩) (nomark _))) (fun _ _ _ _ _ => (pv 1))) pa_nil)))), ?_⟩
    refine ⟨.ref p, rfl, p, CP, dx, fs, .ref a, rfl, hp, T.cl, T.nT, f1, a, rfl, ⟨_, SqT.of ha⟩, fun D hD => ?_⟩
    refine lc_tup (K := K) (a := a) (xs := us) (fun n H' => ∃ ys : List V, H' D = some (.lst ys) ∧ ys.length = ((ts.take n).filter names).length ∧ Same H H') ⟨[], upd_same, rfl, same_new hD⟩ (fun n H' _ ⟨_, _, _, sm⟩ => SqT.of (sm _ _ ha)) ?_ ?_
    · rintro n v H' hn ⟨ys, hy, hyl, sm⟩
      have hlt : n < ts.length := by have := (List.getElem?_eq_some_iff.mp hn).1; rw [hT.1] at this; exact this
      have hx : ts[n]? = some (ts[n]'hlt) := List.getElem?_eq_getElem _
      generalize ts[n]'hlt = x at hx
      obtain ⟨t, rfl, ht⟩ := hT.2 n v x hn hx
      have hc := countT names ts hx
      have hle : ((ts.take n).filter names).length ≤ 4 := Nat.le_trans (List.length_filter_le _ _) (by rw [List.length_take]; omega)
      refine ⟨t, _, rfl, SqT.of (sm _ _ ht), rfl, .str x.1, _, rfl, .str x.2, _, rfl, rfl, rfl, .str x.1, rfl, rfl, _, rfl, ?_⟩
      have e1 : decide (V.str x.1 = V.str (Str.ofString "*")) = decide (x.1 = starS) := by
        refine decide_eq_decide.mpr ⟨fun e => by injection e, fun e => by rw [e]; rfl⟩
      rw [e1]
      cases hb : decide (x.1 = starS) with
      | true =>
        refine iteF ⟨ys, hy, ?_, sm⟩
        rw [hc, hyl]; unfold names; rw [hb]; rfl
      | false =>
        refine iteT ⟨.str x.1, rfl, ys, hy, small1000 (by omega), ys ++ [.str x.1], upd_same, ?_, same_at sm hD⟩
        rw [hc, List.length_append, hyl]; unfold names; rw [hb]; rfl
    · rintro H' ⟨ys, hy, hyl, sm⟩
      rw [hT.1, List.take_length] at hyl
      refine ⟨.ref D, ys.length, rfl, .inl ⟨_, SqL.of hy, rfl⟩, ?_⟩
      rw [hyl]
      exact q _ sm
/-! ### _law_number, _law_name -/
def spNumber : Sp := fun vs H Q _ => ∃ i : Int, vs = [.int i] ∧ Q (.bl true) H
theorem scNumber : FnScope ["_law_value"] ["_law_value"] (defScope sNumber) := ⟨rfl, rfl, rfl, by decide +kernel, rfl, by decide +kernel, by decide +kernel⟩
theorem ok_number {f : Addr} {fd : FuncData} (B : Blt mg) (F : Fun K "_law_number" "_law_number" sNumber f fd) : FnOk P w K mg base CX0 1 f fd ["_law_value"] spNumber := by
  refine F.ok scNumber (fun vs H Q E h => ?_) (fun cdv A0 outer s H vs Q E hr h => ?_)
  · obtain ⟨i, rfl, _⟩ := h; rfl
  · obtain ⟨i, rfl, q⟩ := h
    refine ⟨_, (pss_one (ps_ret (pe_and (pe_callB call_isi (by rfl) B.isi (by decide +kernel) (pa_cons (pv 0) (pa_cons (pe_bltn (v := .ty "int") (by rfl) B.int (by decide +kernel) rfl) pa_nil))) (pe_one (pe_not (pe_callB call_isi (by rfl) B.isi (by decide +kernel) (pa_cons (pv 0) (pa_cons (pe_bltn (v := .ty "bool") (by rfl) B.bool (by decide +kernel) rfl) pa_nil)))))))), ?_⟩
    exact ⟨.int i, rfl, .int i, .ty "int", .type "int", .type "int", true, rfl, .ty "int", .base (.int i), kit_ty (by decide +kernel), _, rfl, iteT ⟨.int i, rfl, .int i, .ty "bool", .type "int", .type "bool", false, rfl, .ty "bool", .base (.int i), kit_ty (by decide +kernel), _, rfl, q⟩⟩
end
end K11

set_option maxRecDepth 100000
set_option maxHeartbeats 4000000
namespace K11
open PySem PySem.Spec PyProof.Rows L2
theorem pick {z : Str} {r : Int} (h0 : 0 ≤ r) (h1 : r < (z.length : Int)) : ∃ c, atI z.cps.toList r = some c ∧ c ∈ tl z := by
  have h2 : r.toNat < z.cps.toList.length := by rw [Array.length_toList]; have : z.length = z.cps.size := rfl; omega
  have h3 : ((r.toNat : Nat) : Int) = r := by omega
  have h4 := atI_nat (List.getElem?_eq_getElem h2)
  rw [h3] at h4
  exact ⟨_, h4, List.getElem_mem h2⟩
theorem cutV_nat (xs : List V) {a b : Nat} (hab : a ≤ b) (hb : b ≤ xs.length) : cutV xs (some (a : Int)) (some (b : Int)) = (xs.drop a).take (b - a) := by
  unfold cutV
  rw [HT.sIx_nat, HT.sIx_nat, Nat.min_eq_left hb, Nat.min_eq_left (Nat.le_trans hab hb)]
theorem row_at {ls rs : List Int} (h : rs.length = ls.length ∧ ∀ (i : Nat) (l : Int), ls[i]? = some l → ∃ r, rs[i]? = some r ∧ 0 ≤ r ∧ r < l) {i : Nat} {l : Int} (hl : ls[i]? = some l) : ∃ r, rs[i]? = some r ∧ 0 ≤ r ∧ r < l := h.2 i l hl
theorem i_at {rs : List Int} {i : Nat} {r : Int} (h : rs[i]? = some r) : (rs.map V.int)[i]? = some (.int r) := by rw [List.getElem?_map, h]; rfl
theorem name_mk {z : Str} (h1 : 1 ≤ (tl z).length) (h2 : (tl z).length ≤ 8) (h3 : ∀ c ∈ tl z, isL c = true) : Name z := ⟨h1, h2, h3⟩
def words8 : List Str := ["doc", "par", "em", "head", "note", "a", "b", "x"].map Str.ofString
theorem words8_ok : ∀ z ∈ words8, (1 ≤ (tl z).length ∧ (tl z).length ≤ 8) ∧ (tl z).all isL = true := by decide +kernel
section
variable {P : Program} {w : World} {K : PySem.W.Frag} {mg : Str → Option Value} {base : Heap} {t1 t2 t3 t4 t5 t6 : Tok}
/-! ### _law_cell -/
def spCell (K : PySem.W.Frag) : Sp := fun vs H Q _ => ∃ (a : Addr) (ns : List Int) (k : Int), vs = [.ref a, .int k] ∧ SqL K H a (ns.map V.int) ∧ ns.length ≤ 63 ∧ 0 ≤ k ∧ ∀ c, Q (.int c) H
theorem scCell : FnScope ["_law_script", "_law_k"] ["_law_script", "_law_k"] (defScope sCell) := ⟨rfl, rfl, rfl, by decide +kernel, rfl, by decide +kernel, by decide +kernel⟩
theorem ok_cell {f : Addr} {fd : FuncData} (B : Blt mg) (F : Fun K "_law_cell" "_law_cell" sCell f fd) : FnOk P w K mg base CX0 1 f fd ["_law_script", "_law_k"] (spCell K) := by
  refine F.ok scCell (fun vs H Q E h => ?_) (fun cdv A outer s H vs Q E hr h => ?_)
  · obtain ⟨a, ns, k, rfl, _⟩ := h; rfl
  · obtain ⟨a, ns, k, rfl, hS, hlen, h0, q⟩ := h
    refine ⟨_, (pss_cons (ps_if (pt_cmpR op_lt (pv 1) (pe_callB call_len (by rfl) B.len PySem.boot_len (pa_cons (pv 0) pa_nil)) (nomark _))
      (pss_one (ps_ret (pe_callTy call_int1 (by rfl) B.int (by decide +kernel) (pa_cons (pe_ix ix_list (pv 0) (pv 1) (fun _ _ => rfl)) pa_nil))))
      pss_nil)
      (pss_one (ps_ret (pe_op op_add (pe_op op_mul pe_int (pv 1)) pe_int)))), ?_⟩
    refine ⟨.int k, rfl, .ref a, rfl, .ref a, (ns.map V.int).length, rfl, .inl ⟨_, hS, rfl⟩, k, _, rfl, rfl, _, rfl, ite2 (fun hk => ?_) (fun _ => ?_)⟩
    · have hk' : k < ((ns.map V.int).length : Int) := of_decide_eq_true hk
      rw [List.length_map] at hk'
      have hlt : k.toNat < ns.length := by omega
      exact ⟨.ref a, rfl, .int k, rfl, a, _, k, .int (ns[k.toNat]'hlt), rfl, rfl, hS, at_of (j := k.toNat) (by omega) (by rw [List.getElem?_map]; simp [hlt]), .inl ⟨_, rfl, q _⟩⟩
    · exact ⟨.int k, rfl, 7, k, rfl, rfl, .inl ⟨by decide, by decide⟩, _, 1, rfl, rfl, q _⟩
/-! ### _law_row -/
theorem map_snoc' (rs : List Int) (r : Int) : rs.map V.int ++ [V.int r] = (rs ++ [r]).map V.int := by rw [List.map_append]; rfl
def RowOf (ls rs : List Int) : Prop := rs.length = ls.length ∧ ∀ (i : Nat) (l : Int), ls[i]? = some l → ∃ r, rs[i]? = some r ∧ 0 ≤ r ∧ r < l
def spRow (K : PySem.W.Frag) : Sp := fun vs H Q _ => ∃ (c : Int) (a : Addr) (ls : List Int), vs = [.int c, .ref a] ∧ SqL K H a (ls.map V.int) ∧ ls.length ≤ 1000 ∧ (∀ l ∈ ls, 0 < l ∧ l < 10000000000000) ∧
  ∀ H' p rs, Same H H' → H p = none → H' p = some (.lst (rs.map V.int)) → RowOf ls rs → Q (.ref p) H'
theorem scRow : FnScope ["_law_cell_here", "_law_limits", "_law_row_here", "_law_rest", "_law_limit", "_law_k", "_law_mixed"] ["_law_cell_here", "_law_limits"] (defScope sRow) := ⟨rfl, rfl, rfl, by decide +kernel, rfl, by decide +kernel, by decide +kernel⟩
theorem ok_row {f : Addr} {fd : FuncData} (B : Blt mg) (F : Fun K "_law_row" "_law_row" sRow f fd) : FnOk P w K mg base CX0 1 f fd ["_law_cell_here", "_law_limits"] (spRow K) := by
  refine F.ok scRow (fun vs H Q E h => ?_) (fun cdv A outer s H vs Q E hr h => ?_)
  · obtain ⟨c, a, ls, rfl, _⟩ := h; rfl
  · obtain ⟨c, a, ls, rfl, hS, hlen, hpos, q⟩ := h
    refine ⟨_, (pss_cons (ps_set (i := 2) scRow.nd rfl (.inl rfl) (pe_lst pa_nil))
      (pss_cons (ps_if (pt_cmpR op_ge (pv 0) pe_int (nomark _))
      (pss_cons (ps_set (i := 3) scRow.nd rfl (.inl rfl) (pe_op op_sub (pv 0) pe_int))
       (pss_cons (ps_for (PassesOwn.never) rfl (pi_list (pv 1)) (pg_name (i := 4) scRow.nd rfl (.inl rfl))
       (pss_cons (ps_expr (pe_bm PySem.F.plainAttrs_list PySem.F.slot_list_append PySem.F.type_list_append mt_append (pv 2) (pa_cons (pe_op op_modN (pe_callTy call_int1 (by rfl) B.int (by decide +kernel) (pa_cons (pv 3) pa_nil)) (pv 4)) pa_nil)))
        (pss_one (ps_set (i := 3) scRow.nd rfl (.inl rfl) (pe_op op_fdivW (pv 3) (pv 4))))))
       (pss_one (ps_ret (pv 2)))))
      pss_nil)
      (pss_cons (ps_for (PassesOwn.never) rfl (pi_range1 (by rfl) B.range (pa_cons (pe_callB call_len (by rfl) B.len PySem.boot_len (pa_cons (pv 1) pa_nil)) pa_nil)) (pg_name (i := 5) scRow.nd rfl (.inl rfl))
      (pss_cons (ps_set (i := 6) scRow.nd rfl (.inl rfl) (pe_op op_modN (pe_callTy call_int1 (by rfl) B.int (by decide +kernel) (pa_cons (pe_op op_add (pe_op op_add (pe_op op_mul (pv 0) pe_int) (pe_op op_mul (pv 5) pe_int)) pe_int) pa_nil)) pe_int))
       (pss_cons (ps_set (i := 6) scRow.nd rfl (.inl rfl) (pe_op op_modN (pe_callTy call_int1 (by rfl) B.int (by decide +kernel) (pa_cons (pe_op op_add (pe_op op_add (pe_op op_mul (pv 6) (pe_op op_add pe_int (pe_op op_mul pe_int (pv 5)))) (pe_op op_mul (pe_op op_mul (pv 5) (pv 5)) pe_int)) pe_int) pa_nil)) pe_int))
       (pss_one (ps_expr (pe_bm PySem.F.plainAttrs_list PySem.F.slot_list_append PySem.F.type_list_append mt_append (pv 2) (pa_cons (pe_op op_modN (pe_callTy call_int1 (by rfl) B.int (by decide +kernel) (pa_cons (pe_op op_fdivN (pv 6) pe_int) pa_nil)) (pe_ix ix_list (pv 1) (pv 5) (fun _ _ => rfl))) pa_nil)))))))
      (pss_one (ps_ret (pv 2)))))), ?_⟩
    refine ⟨Nat.zero_le _, fun o no => ?_⟩
    have s1 : Same H (upd H o (.lst [])) := same_new no
    have eo : (upd H o (.lst [])) o = some (.lst (([] : List Int).map V.int)) := upd_same
    generalize upd H o (.lst []) = H1 at s1 eo ⊢
    have more : ∀ (n : Nat) (rs : List Int) (l : Int), ls[n]? = some l → rs.length = n → (∀ (i : Nat) (l : Int), i < n → ls[i]? = some l → ∃ r, rs[i]? = some r ∧ 0 ≤ r ∧ r < l) → ∀ x : Int, ∀ (i : Nat) (m : Int), i < n + 1 → ls[i]? = some m → ∃ r, (rs ++ [x.fmod l])[i]? = some r ∧ 0 ≤ r ∧ r < m := by
      intro n rs l hl hrs hrow x i m hi hm
      have hp := hpos l (List.mem_of_getElem? hl)
      by_cases hin : i < n
      · obtain ⟨r, h1, h2, h3⟩ := hrow i m hin hm
        exact ⟨r, by rw [List.getElem?_append_left (by omega)]; exact h1, h2, h3⟩
      · obtain rfl : i = n := by omega
        rw [hl] at hm; cases hm
        exact ⟨_, by rw [List.getElem?_append_right (by omega), hrs, Nat.sub_self]; rfl, Int.fmod_nonneg_of_pos _ hp.1, Int.fmod_lt_of_pos _ hp.1⟩
    refine ⟨.int c, rfl, c, 1000000000000000000, rfl, rfl, _, rfl, ite2 (fun _ => ?_) (fun _ => ?_)⟩
    · refine ⟨.int c, rfl, c, 1000000000000000000, rfl, rfl, .ref a, rfl, a, rfl, ⟨_, s1.seq hS⟩, for_list (K := K) (a := a) (xs := ls.map V.int) (fun n σ H' => ∃ (rest : Int) (y4 y5 y6 : Option V) (rs : List Int), σ = [some (.int c), some (.ref a), some (.ref o), some (.int rest), y4, y5, y6] ∧ Same H H' ∧ H' o = some (.lst (rs.map V.int)) ∧ rs.length = n ∧
        ∀ (i : Nat) (l : Int), i < n → ls[i]? = some l → ∃ r, rs[i]? = some r ∧ 0 ≤ r ∧ r < l) ⟨_, none, none, none, [], rfl, s1, eo, rfl, fun i l h => absurd h (Nat.not_lt_zero i)⟩ (fun n σ H' _ ⟨_, _, _, _, _, _, sm, _⟩ => sm.seq hS) ?_ ?_⟩
      · rintro n x σ H' hn ⟨rest, y4, y5, y6, rs, rfl, sm, ho, hl, hrow⟩
        rw [List.getElem?_map] at hn
        cases en : ls[n]? with
        | none => rw [en] at hn; cases hn
        | some l =>
        rw [en] at hn; cases hn
        have hp := hpos l (List.mem_of_getElem? en)
        have hlt := (List.getElem?_eq_some_iff.mp en).1
        have hsz : (rs.map V.int).length < sizeLine := by rw [List.length_map]; exact small1000 (by omega)
        refine ⟨.ref o, rfl, .inl ⟨rfl, _, SqL.of ho⟩, .int rest, rfl, .inl ⟨rest, rfl, .int l, rfl, rest, l, rfl, rfl, by omega, o, _, _, rfl, rfl, ho, hsz, ?_⟩⟩
        refine ⟨.int rest, rfl, .int l, rfl, rest, l, rfl, rfl, wide_div (b := 44) (by omega) (by omega) (by decide) (by decide), ?_⟩
        exact ⟨_, _, _, _, _, rfl, same_at sm no, by rw [upd_same, map_snoc'], by rw [List.length_append, hl]; rfl, more n rs l en hl hrow rest⟩
      · rintro σ H' ⟨rest, y4, y5, y6, rs, rfl, sm, ho, hl, hrow⟩
        rw [List.length_map] at hl hrow
        exact ⟨.ref o, rfl, q H' o rs sm no ho ⟨hl, fun i l hli => hrow i l (List.getElem?_eq_some_iff.mp hli).1 hli⟩⟩
    · refine ⟨.ref a, rfl, .ref a, (ls.map V.int).length, rfl, .inl ⟨_, s1.seq hS, rfl⟩, ((ls.map V.int).length : Int), rfl, by omega, by rw [List.length_map]; omega, ?_⟩
      rw [Int.toNat_natCast, List.length_map]
      refine for_range (lo := 0) (n := ls.length) (fun n σ H' => ∃ (y3 y4 y5 y6 : Option V) (rs : List Int), σ = [some (.int c), some (.ref a), some (.ref o), y3, y4, y5, y6] ∧ Same H H' ∧ H' o = some (.lst (rs.map V.int)) ∧ rs.length = n ∧
        ∀ (i : Nat) (l : Int), i < n → ls[i]? = some l → ∃ r, rs[i]? = some r ∧ 0 ≤ r ∧ r < l) ⟨none, none, none, none, [], rfl, s1, eo, rfl, fun i l h => absurd h (Nat.not_lt_zero i)⟩ ?_ ?_
      · rintro n σ H' hn ⟨y3, y4, y5, y6, rs, rfl, sm, ho, hl, hrow⟩
        have e0 : (0 : Int) + (n : Int) = (n : Int) := by omega
        rw [e0]
        have hSn : SqL K H' a (ls.map V.int) := sm.seq hS
        have en : ls[n]? = some (ls[n]'hn) := by simp [hn]
        have hat : (ls.map V.int)[n]? = some (.int (ls[n]'hn)) := by rw [List.getElem?_map, en]; rfl
        have hp := hpos (ls[n]'hn) (List.getElem_mem hn)
        have hsz : (rs.map V.int).length < sizeLine := by rw [List.length_map]; exact small1000 (by omega)
        refine ⟨.int c, rfl, c, 48271, rfl, rfl, .inr ⟨by decide, by decide⟩, .int (n : Int), rfl, (n : Int), 69621, rfl, rfl, .inr ⟨by decide, by decide⟩, _, _, rfl, rfl, _, 11, rfl, rfl, .inl ⟨_, rfl, _, 2147483647, rfl, rfl, (show (2147483647 : Int) ≠ 0 by decide), ?_⟩⟩
        have hm0 : 0 ≤ (c * 48271 + (n : Int) * 69621 + 11).fmod 2147483647 := Int.fmod_nonneg_of_pos _ (by decide)
        have hm1 : (c * 48271 + (n : Int) * 69621 + 11).fmod 2147483647 < 2147483647 := Int.fmod_lt_of_pos _ (by decide)
        refine ⟨_, rfl, .int (n : Int), rfl, 2, (n : Int), rfl, rfl, .inl ⟨by decide, by decide⟩, 16807, _, rfl, rfl, (c * 48271 + (n : Int) * 69621 + 11).fmod 2147483647, _, rfl, rfl, .inl ⟨Int.lt_of_lt_of_le (by decide) hm0, Int.lt_trans hm1 (by decide)⟩, .int (n : Int), rfl, .int (n : Int), rfl, (n : Int), (n : Int), rfl, rfl, .inl ⟨by omega, by omega⟩, _, 40692, rfl, rfl, .inr ⟨by decide, by decide⟩, _, _, rfl, rfl, _, 7, rfl, rfl, .inl ⟨_, rfl, _, 2147483399, rfl, rfl, (show (2147483399 : Int) ≠ 0 by decide), ?_⟩⟩
        refine ⟨.ref o, rfl, .inl ⟨rfl, _, SqL.of ho⟩, _, rfl, _, 31, rfl, rfl, ⟨by decide, by decide⟩, .inl ⟨_, rfl, .ref a, rfl, .int (n : Int), rfl, a, _, (n : Int), .int (ls[n]'hn), rfl, rfl, hSn, atI_nat hat, _, ls[n]'hn, rfl, rfl, by omega, o, _, _, rfl, rfl, ho, hsz, ?_⟩⟩
        exact ⟨_, _, _, _, _, rfl, same_at sm no, by rw [upd_same, map_snoc'], by rw [List.length_append, hl]; rfl, more n rs _ en hl hrow _⟩
      · rintro σ H' ⟨y3, y4, y5, y6, rs, rfl, sm, ho, hl, hrow⟩
        exact ⟨.ref o, rfl, q H' o rs sm no ho ⟨hl, fun i l hli => hrow i l (List.getElem?_eq_some_iff.mp hli).1 hli⟩⟩


/-! ### _law_names -/
end
theorem sAt {zs : List Str} {i : Nat} {z : Str} (h : zs[i]? = some z) : (zs.map V.str)[i]? = some (.str z) := by rw [List.getElem?_map, h]; rfl
def sepS (l : Nat) : Str := if l = 0 then Str.ofString " " else if l = 1 then Str.ofString " > " else Str.ofString " + "
theorem tl_sep {l : Nat} (h : l ≤ 2) : tl (sepS l) = sepL l := by
  match l, h with
  | 0, _ => decide +kernel
  | 1, _ => decide +kernel
  | 2, _ => decide +kernel
abbrev sv (l : Nat) : V := .str (sepS l)
theorem sep_len {l : Nat} (h : l ≤ 2) : (sepL l).length ≤ 3 := by
  match l, h with
  | 0, _ => decide
  | 1, _ => decide
  | 2, _ => decide
theorem textL_len {x : Tst} (hx : GoodT x) : ∀ rs : List (Nat × Tst), (∀ r ∈ rs, r.1 ≤ 2 ∧ GoodT r.2) → (textL x rs).length ≤ 17 + 20 * rs.length := fun rs => by
  unfold textL
  induction rs with
  | nil => intro _; have := (word_len hx).2; simpa using this
  | cons r rs ih =>
    intro h
    have h1 := ih fun q hq => h q (List.mem_cons_of_mem _ hq)
    obtain ⟨a, b⟩ := h r List.mem_cons_self
    have h2 := sep_len a; have h3 := (word_len b).2
    simp only [List.flatMap_cons, List.length_append, List.length_cons] at h1 ⊢
    omega
theorem tl_empty : tl (Str.ofString "") = [] := by decide +kernel
theorem add_room {a b : Str} {n : Nat} (ha : (tl a).length ≤ n) (hb : (tl b).length ≤ 100) (hn : n ≤ 800) : a.length + b.length ≤ sizeLine := by
  rw [← tl_len, ← tl_len, sizeLine_eq]; omega

theorem textL_snoc (x : Tst) (rs : List (Nat × Tst)) (r : Nat × Tst) : textL x (rs ++ [r]) = textL x rs ++ sepL r.1 ++ wordL r.2 := by
  unfold textL; simp
/-- n tests, as they are written -/
def WR (n : Nat) (l : List Nat) : Prop := match n with
  | 0 => l = []
  | m + 1 => ∃ x rs, l = textL x rs ∧ GoodT x ∧ (∀ r ∈ rs, r.1 ≤ 2 ∧ GoodT r.2) ∧ rs.length = m
theorem WR.len {n : Nat} {l : List Nat} (h : WR n l) (hn : n ≤ 4) : l.length ≤ 77 := by
  cases n with
  | zero => have : l = [] := h; rw [this]; decide
  | succ m =>
    obtain ⟨x, rs, rfl, gx, gr, hl⟩ := h
    have := textL_len gx rs gr
    omega
theorem WR.one {y : Tst} (gy : GoodT y) : WR 1 (wordL y) := ⟨y, [], by simp [textL], gy, fun r h => absurd h List.not_mem_nil, rfl⟩
theorem WR.more {m : Nat} {l : List Nat} (h : WR (m + 1) l) {y : Tst} (gy : GoodT y) {k : Nat} (hk : k ≤ 2) : WR (m + 2) (l ++ sepL k ++ wordL y) := by
  obtain ⟨x, rs, rfl, gx, gr, hl⟩ := h
  refine ⟨x, rs ++ [(k, y)], (textL_snoc x rs (k, y)).symm, gx, fun r hr => ?_, by rw [List.length_append, hl]; rfl⟩
  rcases List.mem_append.mp hr with h | h
  · exact gr r h
  · rw [List.mem_singleton.mp h]; exact ⟨hk, gy⟩
/-! ### what is drawn reads -/
theorem kL_app {a b : List Nat} (h : 46 ∉ a) : kL (a ++ 46 :: b) = a ∧ mL (a ++ 46 :: b) = b := by
  unfold kL mL
  induction a with
  | nil => exact ⟨by simp, by simp⟩
  | cons c a ih =>
    have hc : c ≠ 46 := fun e => h (by rw [e]; exact List.mem_cons_self)
    obtain ⟨i1, i2⟩ := ih fun e => h (List.mem_cons_of_mem _ e)
    rw [List.cons_append, List.takeWhile_cons, List.dropWhile_cons, if_pos (decide_eq_true hc), if_pos (decide_eq_true hc)]
    exact ⟨by rw [i1], i2⟩
theorem word_parts {z : Str} {y : Tst} (gy : GoodT y) (hz : tl z = wordL y) : lnkB z = false ∧ testOf z = some y := by
  have hk46 : 46 ∉ tl y.1 := kind_free gy (by decide) (by decide)
  have hm46 : 46 ∉ tl y.2 := mark_free gy.2 (by decide)
  constructor
  · unfold lnkB
    have hk := (kind_len gy).1
    have h1 : ∀ s : Nat, s < 97 → s ≠ 42 → s ≠ 46 → tl z ≠ [s] := fun s h97 h42 hd e => by
      have hf := word_free gy h97 h42 hd
      rw [← hz, e] at hf; simp at hf
    rw [decide_eq_false (fun e => h1 62 (by decide) (by decide) (by decide) (by rw [e]; decide +kernel)), decide_eq_false (fun e => h1 43 (by decide) (by decide) (by decide) (by rw [e]; decide +kernel))]; rfl
  · have key : goodB z = true ∧ kS z = y.1 ∧ mS z = y.2 := by
      have gk : (decide (y.1 = starS) || nameB (tl y.1)) = true := by
        rcases gy.1 with h | h
        · rw [h, decide_eq_true rfl]; rfl
        · rw [nameB_iff.mpr h, Bool.or_true]
      unfold goodB
      by_cases he : tl y.2 = []
      · have hzz : tl z = tl y.1 := by rw [hz]; unfold wordL; rw [if_pos he, List.append_nil]
        have hd : dB (tl z) = false := decide_eq_false (by rw [hzz]; exact hk46)
        have ek : kS z = y.1 := str_eq (by rw [tl_kS, (cut_nodot hd).1, hzz])
        have em : mS z = y.2 := str_eq (by rw [tl_mS, (cut_nodot hd).2, he])
        exact ⟨by rw [ek, gk, hd]; rfl, ek, em⟩
      · have hzz : tl z = tl y.1 ++ 46 :: tl y.2 := by rw [hz]; unfold wordL; rw [if_neg he]
        have hd : dB (tl z) = true := decide_eq_true (by rw [hzz]; simp)
        obtain ⟨hkl0, hml0⟩ := kL_app (a := tl y.1) (b := tl y.2) hk46
        have hkl : kL (tl z) = tl y.1 := by rw [hzz]; exact hkl0
        have hml : mL (tl z) = tl y.2 := by rw [hzz]; exact hml0
        have ek : kS z = y.1 := str_eq (by rw [tl_kS, hkl])
        have em : mS z = y.2 := str_eq (by rw [tl_mS, hml])
        have gm : nameB (tl y.2) = true := by
          rcases gy.2 with h | h
          · exact absurd h he
          · exact nameB_iff.mpr h
        exact ⟨by rw [ek, gk, em, gm, Bool.or_true]; rfl, ek, em⟩
    obtain ⟨hg, ek, em⟩ := key
    unfold testOf; rw [if_pos hg, ek, em]
theorem run_toks : ∀ (tk : List Tk) (ws : List Str) (s : Ps) (lk : Bool), okTk s tk → ws.map tl = tk.map encT → lk = decide (s.1 ≠ [] ∧ s.2.2 = 0) →
    ∃ lk', ws.foldl stepR (some (s.1, lk)) = some ((tk.foldl stp s).1, lk') ∧ lk' = decide ((tk.foldl stp s).1 ≠ [] ∧ (tk.foldl stp s).2.2 = 0)
  | [], ws, s, lk, _, hw, hk => by
    have : ws = [] := by simpa using hw
    subst this
    exact ⟨lk, rfl, hk⟩
  | .lnk l :: tk, [], s, lk, _, hw, _ => by simp at hw
  | .tst x :: tk, [], s, lk, _, hw, _ => by simp at hw
  | .lnk l :: tk, w :: ws, s, lk, ok, hw, hk => by
    obtain ⟨o1, o2, o3, o4⟩ := ok
    rw [List.map_cons, List.map_cons] at hw
    have h1 := (List.cons.inj hw).1
    have h2 := (List.cons.inj hw).2
    have hkt : lk = true := by rw [hk]; exact decide_eq_true ⟨o1, o2⟩
    have hlk : lnkB w = true := by
      unfold lnkB
      rcases o3 with h | h
      · subst h
        have : w = gtS := str_eq (by rw [h1]; decide +kernel)
        rw [this, decide_eq_true rfl]; rfl
      · subst h
        have : w = plS := str_eq (by rw [h1]; decide +kernel)
        rw [this, decide_eq_true (p := plS = plS) rfl, Bool.or_true]
    have hst : stepR (some (s.1, lk)) w = some (s.1, false) := by simp only [stepR]; rw [hkt, hlk]; rfl
    rw [List.foldl_cons, hst, List.foldl_cons]
    obtain ⟨a, b, c⟩ := s
    refine run_toks tk ws (stp (a, b, c) (.lnk l)) false o4 h2 ?_
    show false = decide (a ≠ [] ∧ l = 0)
    rw [decide_eq_false (by omega)]
  | .tst x :: tk, w :: ws, s, lk, ok, hw, hk => by
    obtain ⟨o1, o2⟩ := ok
    rw [List.map_cons, List.map_cons] at hw
    have h1 := (List.cons.inj hw).1
    have h2 := (List.cons.inj hw).2
    obtain ⟨hlk, hy⟩ := word_parts o1 h1
    have hst : stepR (some (s.1, lk)) w = some (s.1 ++ [x], true) := by simp only [stepR]; rw [hlk, Bool.and_false, if_neg Bool.false_ne_true, hy]
    rw [List.foldl_cons, hst, List.foldl_cons]
    obtain ⟨a, b, c⟩ := s
    refine run_toks tk ws (stp (a, b, c) (.tst x)) true o2 h2 ?_
    show true = decide (a ++ [x] ≠ [] ∧ (0 : Nat) = 0)
    rw [decide_eq_true ⟨by simp, rfl⟩]
theorem good_reads {z : Str} {x : Tst} {rs : List (Nat × Tst)} (hz : tl z = textL x rs) (gx : GoodT x) (gr : ∀ r ∈ rs, r.1 ≤ 2 ∧ GoodT r.2) (hl : rs.length ≤ 3) : rdT (wds z) = some (x :: rs.map (·.2)) := by
  obtain ⟨k1, k2⟩ := toks_ok gx gr
  have hw : (wds z).map tl = (toks x rs).map encT := split_toks (by rw [join_toks]; exact hz) (by simp [toks]) k1
  obtain ⟨lk, e1, e3⟩ := run_toks (toks x rs) (wds z) ([], [], 0) false k1 hw (by simp)
  rw [k2] at e1 e3
  have hlk : lk = true := by rw [e3]; exact decide_eq_true ⟨by simp, rfl⟩
  have h4 : (x :: rs.map (·.2)).length ≤ 4 := by rw [List.length_cons, List.length_map]; omega
  unfold rdT runR
  rw [e1, hlk]; simp only; rw [if_pos h4]
end K11

set_option maxRecDepth 100000
set_option maxHeartbeats 4000000
namespace K11
open PySem PySem.Spec PyProof.Rows L2 R8
/-! ### ranks -/
structure RTxt (K : PySem.W.Frag) (mg : Str → Option Value) (C : Addr) : Prop where
  cl : Cls K C
  n_firm : NoAttr K C "firm"
  n_marks : NoAttr K C "marks"
  n_kinds : NoAttr K C "kinds"
  n_index : NoAttr K C "index"
  n_parts : NoAttr K C "parts"
  mgC : mg "Rank" = some (.ref C)
  ha : PySem.W.findIn K (.ref C) "__class__" = some (some (.builtin "object.__class__"))
  hn : PySem.W.specialIn K (.builtin "object.__class__") "__get__" = some (some (.builtin "getset_descriptor.__get__"))
  ht : PySem.W.takesIn K (.builtin "object.__class__") = some true
  hm : PySem.W.mroIn K C (.type "object") = some true
  ks : PySem.W.kitOne K (.ref C) (.ref C) = some true
  kt : PySem.W.kitOne K (.type "tuple") (.ref C) = some false
  sb : PySem.W.subIn K (.ref C) (.type "tuple") = some false
  ni : mg "NotImplemented" = none
structure RankAt (C : Addr) (H : Hp) (r : Addr) (p : P4) : Prop where
  ex : ∃ dx fs b, H r = some (.ins C dx fs) ∧ fs.lookup ("firm" : Str) = some (.bl p.f) ∧ fs.lookup ("marks" : Str) = some (.int p.m) ∧ fs.lookup ("kinds" : Str) = some (.int p.k) ∧ fs.lookup ("index" : Str) = some (.int p.i) ∧ fs.lookup ("parts" : Str) = some (.ref b) ∧ H b = some (.tup p.vs)
theorem RankAt.same {C : Addr} {H H' : Hp} {r : Addr} {p : P4} (h : RankAt C H r p) (s : Same H H') : RankAt C H' r p := by
  obtain ⟨dx, fs, b, h1, h2, h3, h4, h5, h6, h7⟩ := h.ex
  exact ⟨dx, fs, b, s _ _ h1, h2, h3, h4, h5, h6, s _ _ h7⟩
section
variable {P : Program} {w : World} {K : PySem.W.Frag} {mg : Str → Option Value} {base : Heap} {t1 t2 t3 t4 t5 t6 : Tok}
def spRInit (C : Addr) : Sp := fun vs H Q _ => ∃ (r dx : Addr) (p : P4), vs = [.ref r, .bl p.f, .int p.m, .int p.k, .int p.i] ∧ H r = some (.ins C dx []) ∧ ∀ H', (∀ b o, b ≠ r → H b = some o → H' b = some o) → RankAt C H' r p → Q .non H'
abbrev nRI : List Str := ["self", "firm", "marks", "kinds", "index"]
theorem scRInit : FnScope nRI nRI (defScope sRInit) := ⟨rfl, rfl, rfl, by decide +kernel, rfl, by decide +kernel, by decide +kernel⟩
theorem ok_rinit {C f : Addr} {fd : FuncData} (T : RTxt K mg C) (F : Fun K "__init__" "Rank.__init__" sRInit f fd) : FnOk P w K mg base CX0 1 f fd nRI (spRInit C) := by
  refine F.ok scRInit (fun vs H Q E h => ?_) (fun cdv A0 outer s H vs Q E hr h => ?_)
  · obtain ⟨r, dx, p, rfl, _⟩ := h; rfl
  · obtain ⟨r, dx, p, rfl, hr', q⟩ := h
    refine ⟨_, (pss_cons (ps_fld (pv 0) (pv 1) rfl)
      (pss_cons (ps_fld (pv 0) (pv 2) rfl)
      (pss_cons (ps_fld (pv 0) (pv 3) rfl)
      (pss_cons (ps_fld (pv 0) (pv 4) rfl)
      (pss_one (ps_fld (pv 0) (pe_tup (pa_cons (pv 1) (pa_cons (pv 2) (pa_cons (pv 3) (pa_cons (pv 4) pa_nil))))) rfl)))))), ?_⟩
    refine ⟨.bl p.f, rfl, .ref r, rfl, r, C, dx, [], rfl, hr', T.cl, T.n_firm, by show 0 < 1000; decide, ?_⟩
    refine ⟨.int p.m, rfl, .ref r, rfl, r, C, dx, _, rfl, upd_same, T.cl, T.n_marks, by show 1 < 1000; decide, ?_⟩
    refine ⟨.int p.k, rfl, .ref r, rfl, r, C, dx, _, rfl, upd_same, T.cl, T.n_kinds, by show 2 < 1000; decide, ?_⟩
    refine ⟨.int p.i, rfl, .ref r, rfl, r, C, dx, _, rfl, upd_same, T.cl, T.n_index, by show 3 < 1000; decide, ?_⟩
    refine ⟨.bl p.f, rfl, .int p.m, rfl, .int p.k, rfl, .int p.i, rfl, by show 4 ≤ sizeLine; decide, fun t nt => ?_⟩
    have ntr : t ≠ r := fun e => by subst e; rw [upd_same] at nt; cases nt
    have ntH : H t = none := by rw [upd_ne ntr, upd_ne ntr, upd_ne ntr, upd_ne ntr] at nt; exact nt
    refine ⟨.ref r, rfl, r, C, dx, _, rfl, by rw [upd_ne (Ne.symm ntr)]; exact upd_same, T.cl, T.n_parts, by show 4 < 1000; decide, ?_⟩
    refine q _ (fun b o h e => ?_) ⟨dx, _, t, upd_same, ?_, ?_, ?_, ?_, ?_, by rw [upd_ne ntr]; exact upd_same⟩
    · have hbt : b ≠ t := ne_of_none e ntH
      rw [upd_ne h, upd_ne hbt, upd_ne h, upd_ne h, upd_ne h, upd_ne h]; exact e
    · rw [lookup_putF, if_neg (by decide +kernel)]; rw [lookup_putF, if_neg (by decide +kernel)]; rw [lookup_putF, if_neg (by decide +kernel)]; rw [lookup_putF, if_neg (by decide +kernel)]; rw [lookup_putF, if_pos rfl]
    · rw [lookup_putF, if_neg (by decide +kernel)]; rw [lookup_putF, if_neg (by decide +kernel)]; rw [lookup_putF, if_neg (by decide +kernel)]; rw [lookup_putF, if_pos rfl]
    · rw [lookup_putF, if_neg (by decide +kernel)]; rw [lookup_putF, if_neg (by decide +kernel)]; rw [lookup_putF, if_pos rfl]
    · rw [lookup_putF, if_neg (by decide +kernel)]; rw [lookup_putF, if_pos rfl]
    · rw [lookup_putF, if_pos rfl]
def spCmp (C : Addr) (op : CmpOp) : Sp := fun vs H Q _ => ∃ (r q : Addr) (p p' : P4), vs = [.ref r, .ref q] ∧ RankAt C H r p ∧ RankAt C H q p' ∧ Q (.bl (ansOf op (p.ord p'))) H
abbrev nCm : List Str := ["self", "other"]
def d4 (p : P4) : PyData := .tuple [.bool p.f, .int p.m, .int p.k, .int p.i]
theorem dp4 {H : Hp} {b : Addr} {p : P4} (h : H b = some (.tup p.vs)) : Dp K H (.ref b) (d4 p) := .tup (SqT.of h) (.cons (.bl _) (.cons (.int _) (.cons (.int _) (.cons (.int _) .nil))))
theorem shaped4 (p : P4) : SeqAt.shaped (d4 p) = true := by
  unfold d4 SeqAt.shaped
  simp [PyData.canLay0, PyData.canLayAll0, PyData.depth, PyData.depthAll]
theorem eqv4 (p q : P4) : PyData.eqv (d4 p) (d4 q) = decide (p.ord q = 0) := by
  have z : ∀ a b : Int, (a == b) = decide (a = b) := fun a b => by
    by_cases h : a = b
    · rw [decide_eq_true h]; exact beq_iff_eq.mpr h
    · rw [decide_eq_false h]; exact beq_eq_false_iff_ne.mpr h
  have zb : (p.f == q.f) = decide (bi p.f = bi q.f) := by cases p.f <;> cases q.f <;> decide
  have h : PyData.eqv (d4 p) (d4 q) = (decide (bi p.f = bi q.f) && (decide (p.m = q.m) && (decide (p.k = q.k) && decide (p.i = q.i)))) := by
    rw [← zb, ← z, ← z, ← z]
    unfold d4
    simp [PyData.eqv, PyData.eqvAll]
  rw [h]
  unfold P4.ord
  by_cases h0 : bi p.f = bi q.f
  · rw [if_pos h0, decide_eq_true h0]
    by_cases h1 : p.m = q.m
    · rw [if_pos h1, decide_eq_true h1]
      by_cases h2 : p.k = q.k
      · rw [if_pos h2, decide_eq_true h2]
        simp only [Bool.true_and]
        exact decide_eq_decide.mpr (by omega)
      · have h9 : ¬ p.k - q.k = 0 := by omega
        rw [if_neg h2, decide_eq_false h2, decide_eq_false h9]; rfl
    · have h9 : ¬ p.m - q.m = 0 := by omega
      rw [if_neg h1, decide_eq_false h1, decide_eq_false h9]; rfl
  · have h9 : ¬ bi p.f - bi q.f = 0 := by omega
    rw [if_neg h0, decide_eq_false h0, decide_eq_false h9]; rfl
theorem scREq : FnScope nCm nCm (defScope sREq) := ⟨rfl, rfl, rfl, by decide +kernel, rfl, by decide +kernel, by decide +kernel⟩
theorem ok_sREq {C f : Addr} {fd : FuncData} (B : Blt mg) (T : RTxt K mg C) (F : Fun K "__eq__" "Rank.__eq__" sREq f fd) : FnOk P w K mg base CX0 1 f fd nCm (spCmp C .Eq) := by
  refine F.ok scREq (fun vs H Q E h => ?_) (fun cdv A0 outer s H vs Q E hr h => ?_)
  · obtain ⟨r, q, p, p', rfl, _⟩ := h; rfl
  · obtain ⟨r, r2, p, p', rfl, h1, h2, q⟩ := h
    obtain ⟨dx, fs, b, hp, _, _, _, _, f1, hb⟩ := h1.ex
    obtain ⟨dy, gs, c, hq, _, _, _, _, f2, hc⟩ := h2.ex
    refine ⟨_, (pss_cons (ps_if (pt_not (pt_val (pe_callB call_isi (by rfl) B.isi (by decide +kernel) (pa_cons (pv 1) (pa_cons (pe_glob (v := .ref C) (by rfl) T.mgC rfl) pa_nil)))))
      (pss_one ps_never)
      pss_nil)
      (pss_one (ps_ret (pe_cmpR (op_eqD hr.units) (pe_fld (pv 0) rfl) (pe_fld (pv 1) rfl) (nomark _))))), ?_⟩
    refine ⟨.ref r2, rfl, .ref r2, .ref C, .ref C, .ref C, true, rfl, .own C, .base (.ins hq T.cl T.ha T.hn T.ht T.hm), T.ks, _, rfl, iteF ?_⟩
    refine ⟨.ref r, rfl, r, C, dx, fs, .ref b, rfl, hp, T.cl, T.n_parts, f1, .ref r2, rfl, r2, C, dy, gs, .ref c, rfl, hq, T.cl, T.n_parts, f2, d4 p, d4 p', dp4 hb, dp4 hc, shaped4 p, shaped4 p', ?_⟩
    rw [eqv4]; exact q
theorem scRNe : FnScope nCm nCm (defScope sRNe) := ⟨rfl, rfl, rfl, by decide +kernel, rfl, by decide +kernel, by decide +kernel⟩
theorem ok_sRNe {C f : Addr} {fd : FuncData} (B : Blt mg) (T : RTxt K mg C) (F : Fun K "__ne__" "Rank.__ne__" sRNe f fd) : FnOk P w K mg base CX0 1 f fd nCm (spCmp C .NotEq) := by
  refine F.ok scRNe (fun vs H Q E h => ?_) (fun cdv A0 outer s H vs Q E hr h => ?_)
  · obtain ⟨r, q, p, p', rfl, _⟩ := h; rfl
  · obtain ⟨r, r2, p, p', rfl, h1, h2, q⟩ := h
    obtain ⟨dx, fs, b, hp, _, _, _, _, f1, hb⟩ := h1.ex
    obtain ⟨dy, gs, c, hq, _, _, _, _, f2, hc⟩ := h2.ex
    refine ⟨_, (pss_cons (ps_if (pt_not (pt_val (pe_callB call_isi (by rfl) B.isi (by decide +kernel) (pa_cons (pv 1) (pa_cons (pe_glob (v := .ref C) (by rfl) T.mgC rfl) pa_nil)))))
      (pss_one ps_never)
      pss_nil)
      (pss_one (ps_ret (pe_cmpR (op_neD hr.units) (pe_fld (pv 0) rfl) (pe_fld (pv 1) rfl) (nomark _))))), ?_⟩
    refine ⟨.ref r2, rfl, .ref r2, .ref C, .ref C, .ref C, true, rfl, .own C, .base (.ins hq T.cl T.ha T.hn T.ht T.hm), T.ks, _, rfl, iteF ?_⟩
    refine ⟨.ref r, rfl, r, C, dx, fs, .ref b, rfl, hp, T.cl, T.n_parts, f1, .ref r2, rfl, r2, C, dy, gs, .ref c, rfl, hq, T.cl, T.n_parts, f2, d4 p, d4 p', dp4 hb, dp4 hc, shaped4 p, shaped4 p', ?_⟩
    rw [eqv4]; exact q
theorem scRLt : FnScope nCm nCm (defScope sRLt) := ⟨rfl, rfl, rfl, by decide +kernel, rfl, by decide +kernel, by decide +kernel⟩
theorem ok_sRLt {C f : Addr} {fd : FuncData} (B : Blt mg) (T : RTxt K mg C) (F : Fun K "__lt__" "Rank.__lt__" sRLt f fd) : FnOk P w K mg base CX0 1 f fd nCm (spCmp C .Lt) := by
  refine F.ok scRLt (fun vs H Q E h => ?_) (fun cdv A0 outer s H vs Q E hr h => ?_)
  · obtain ⟨r, q, p, p', rfl, _⟩ := h; rfl
  · obtain ⟨r, r2, p, p', rfl, h1, h2, q⟩ := h
    obtain ⟨dx, fs, b, hp, _, _, _, _, f1, hb⟩ := h1.ex
    obtain ⟨dy, gs, c, hq, _, _, _, _, f2, hc⟩ := h2.ex
    refine ⟨_, (pss_cons (ps_if (pt_not (pt_val (pe_callB call_isi (by rfl) B.isi (by decide +kernel) (pa_cons (pv 1) (pa_cons (pe_glob (v := .ref C) (by rfl) T.mgC rfl) pa_nil)))))
      (pss_one ps_never)
      pss_nil)
      (pss_one (ps_ret (pe_cmpR (R8.op_lt4 hr.units0) (pe_fld (pv 0) rfl) (pe_fld (pv 1) rfl) (nomark _))))), ?_⟩
    refine ⟨.ref r2, rfl, .ref r2, .ref C, .ref C, .ref C, true, rfl, .own C, .base (.ins hq T.cl T.ha T.hn T.ht T.hm), T.ks, _, rfl, iteF ?_⟩
    exact ⟨.ref r, rfl, r, C, dx, fs, .ref b, rfl, hp, T.cl, T.n_parts, f1, .ref r2, rfl, r2, C, dy, gs, .ref c, rfl, hq, T.cl, T.n_parts, f2, b, c, p, p', rfl, rfl, SqT.of hb, SqT.of hc, q⟩
theorem scRLe : FnScope nCm nCm (defScope sRLe) := ⟨rfl, rfl, rfl, by decide +kernel, rfl, by decide +kernel, by decide +kernel⟩
theorem ok_sRLe {C f : Addr} {fd : FuncData} (B : Blt mg) (T : RTxt K mg C) (F : Fun K "__le__" "Rank.__le__" sRLe f fd) : FnOk P w K mg base CX0 1 f fd nCm (spCmp C .LtE) := by
  refine F.ok scRLe (fun vs H Q E h => ?_) (fun cdv A0 outer s H vs Q E hr h => ?_)
  · obtain ⟨r, q, p, p', rfl, _⟩ := h; rfl
  · obtain ⟨r, r2, p, p', rfl, h1, h2, q⟩ := h
    obtain ⟨dx, fs, b, hp, _, _, _, _, f1, hb⟩ := h1.ex
    obtain ⟨dy, gs, c, hq, _, _, _, _, f2, hc⟩ := h2.ex
    refine ⟨_, (pss_cons (ps_if (pt_not (pt_val (pe_callB call_isi (by rfl) B.isi (by decide +kernel) (pa_cons (pv 1) (pa_cons (pe_glob (v := .ref C) (by rfl) T.mgC rfl) pa_nil)))))
      (pss_one ps_never)
      pss_nil)
      (pss_one (ps_ret (pe_cmpR (R8.op_le4 hr.units0) (pe_fld (pv 0) rfl) (pe_fld (pv 1) rfl) (nomark _))))), ?_⟩
    refine ⟨.ref r2, rfl, .ref r2, .ref C, .ref C, .ref C, true, rfl, .own C, .base (.ins hq T.cl T.ha T.hn T.ht T.hm), T.ks, _, rfl, iteF ?_⟩
    exact ⟨.ref r, rfl, r, C, dx, fs, .ref b, rfl, hp, T.cl, T.n_parts, f1, .ref r2, rfl, r2, C, dy, gs, .ref c, rfl, hq, T.cl, T.n_parts, f2, b, c, p, p', rfl, rfl, SqT.of hb, SqT.of hc, q⟩
theorem scRGt : FnScope nCm nCm (defScope sRGt) := ⟨rfl, rfl, rfl, by decide +kernel, rfl, by decide +kernel, by decide +kernel⟩
theorem ok_sRGt {C f : Addr} {fd : FuncData} (B : Blt mg) (T : RTxt K mg C) (F : Fun K "__gt__" "Rank.__gt__" sRGt f fd) : FnOk P w K mg base CX0 1 f fd nCm (spCmp C .Gt) := by
  refine F.ok scRGt (fun vs H Q E h => ?_) (fun cdv A0 outer s H vs Q E hr h => ?_)
  · obtain ⟨r, q, p, p', rfl, _⟩ := h; rfl
  · obtain ⟨r, r2, p, p', rfl, h1, h2, q⟩ := h
    obtain ⟨dx, fs, b, hp, _, _, _, _, f1, hb⟩ := h1.ex
    obtain ⟨dy, gs, c, hq, _, _, _, _, f2, hc⟩ := h2.ex
    refine ⟨_, (pss_cons (ps_if (pt_not (pt_val (pe_callB call_isi (by rfl) B.isi (by decide +kernel) (pa_cons (pv 1) (pa_cons (pe_glob (v := .ref C) (by rfl) T.mgC rfl) pa_nil)))))
      (pss_one ps_never)
      pss_nil)
      (pss_one (ps_ret (pe_cmpR (R8.op_gt4 hr.units0) (pe_fld (pv 0) rfl) (pe_fld (pv 1) rfl) (nomark _))))), ?_⟩
    refine ⟨.ref r2, rfl, .ref r2, .ref C, .ref C, .ref C, true, rfl, .own C, .base (.ins hq T.cl T.ha T.hn T.ht T.hm), T.ks, _, rfl, iteF ?_⟩
    exact ⟨.ref r, rfl, r, C, dx, fs, .ref b, rfl, hp, T.cl, T.n_parts, f1, .ref r2, rfl, r2, C, dy, gs, .ref c, rfl, hq, T.cl, T.n_parts, f2, b, c, p, p', rfl, rfl, SqT.of hb, SqT.of hc, q⟩
theorem scRGe : FnScope nCm nCm (defScope sRGe) := ⟨rfl, rfl, rfl, by decide +kernel, rfl, by decide +kernel, by decide +kernel⟩
theorem ok_sRGe {C f : Addr} {fd : FuncData} (B : Blt mg) (T : RTxt K mg C) (F : Fun K "__ge__" "Rank.__ge__" sRGe f fd) : FnOk P w K mg base CX0 1 f fd nCm (spCmp C .GtE) := by
  refine F.ok scRGe (fun vs H Q E h => ?_) (fun cdv A0 outer s H vs Q E hr h => ?_)
  · obtain ⟨r, q, p, p', rfl, _⟩ := h; rfl
  · obtain ⟨r, r2, p, p', rfl, h1, h2, q⟩ := h
    obtain ⟨dx, fs, b, hp, _, _, _, _, f1, hb⟩ := h1.ex
    obtain ⟨dy, gs, c, hq, _, _, _, _, f2, hc⟩ := h2.ex
    refine ⟨_, (pss_cons (ps_if (pt_not (pt_val (pe_callB call_isi (by rfl) B.isi (by decide +kernel) (pa_cons (pv 1) (pa_cons (pe_glob (v := .ref C) (by rfl) T.mgC rfl) pa_nil)))))
      (pss_one ps_never)
      pss_nil)
      (pss_one (ps_ret (pe_cmpR (R8.op_ge4 hr.units0) (pe_fld (pv 0) rfl) (pe_fld (pv 1) rfl) (nomark _))))), ?_⟩
    refine ⟨.ref r2, rfl, .ref r2, .ref C, .ref C, .ref C, true, rfl, .own C, .base (.ins hq T.cl T.ha T.hn T.ht T.hm), T.ks, _, rfl, iteF ?_⟩
    exact ⟨.ref r, rfl, r, C, dx, fs, .ref b, rfl, hp, T.cl, T.n_parts, f1, .ref r2, rfl, r2, C, dy, gs, .ref c, rfl, hq, T.cl, T.n_parts, f2, b, c, p, p', rfl, rfl, SqT.of hb, SqT.of hc, q⟩
/-- == and != asked of a tuple -/
def niR : List V → Hp → (Hp → Prop) → Prop := fun vs H Rh => ∃ (r l : Addr) (xs : List V), vs = [.ref r, .ref l] ∧ H l = some (.tup xs) ∧ Rh H
theorem ni_sREq {C f : Addr} {fd : FuncData} (B : Blt mg) (T : RTxt K mg C) (F : Fun K "__eq__" "Rank.__eq__" sREq f fd) (b : Binds K fd nCm []) : R7.NiOk P w K mg base 1 f niR := by
  obtain ⟨oc, od, kV, doc, pm, an, cdv, ct, osl, rfl, lk, hcd⟩ := F.ex
  refine R7.ni_of lk hcd scREq rfl b (fun vs H Rh h => ?_) T.ni (fun _ _ _ _ => by rfl) (fun A outer s H vs Rh hr h => ?_)
  · obtain ⟨r, l, xs, rfl, _⟩ := h; rfl
  · obtain ⟨r, l, xs, rfl, hl, q⟩ := h
    refine ⟨_, (pt_not (pt_val (pe_callB call_isi (by rfl) B.isi (by decide +kernel) (pa_cons (pv 1) (pa_cons (pe_glob (v := .ref C) (by rfl) T.mgC rfl) pa_nil))))), ?_⟩
    exact ⟨.ref l, rfl, .ref l, .ref C, .type "tuple", .ref C, false, rfl, .own C, .base (.tup hl), T.kt, _, rfl, rfl, q⟩
theorem ni_sRNe {C f : Addr} {fd : FuncData} (B : Blt mg) (T : RTxt K mg C) (F : Fun K "__ne__" "Rank.__ne__" sRNe f fd) (b : Binds K fd nCm []) : R7.NiOk P w K mg base 1 f niR := by
  obtain ⟨oc, od, kV, doc, pm, an, cdv, ct, osl, rfl, lk, hcd⟩ := F.ex
  refine R7.ni_of lk hcd scRNe rfl b (fun vs H Rh h => ?_) T.ni (fun _ _ _ _ => by rfl) (fun A outer s H vs Rh hr h => ?_)
  · obtain ⟨r, l, xs, rfl, _⟩ := h; rfl
  · obtain ⟨r, l, xs, rfl, hl, q⟩ := h
    refine ⟨_, (pt_not (pt_val (pe_callB call_isi (by rfl) B.isi (by decide +kernel) (pa_cons (pv 1) (pa_cons (pe_glob (v := .ref C) (by rfl) T.mgC rfl) pa_nil))))), ?_⟩
    exact ⟨.ref l, rfl, .ref l, .ref C, .type "tuple", .ref C, false, rfl, .own C, .base (.tup hl), T.kt, _, rfl, rfl, q⟩
end
end K11

set_option maxRecDepth 100000
set_option maxHeartbeats 4000000
namespace K11
open PySem PySem.Spec PyProof.Rows L2
theorem made_same {H H' : Hp} {x dx CP : Addr} (nx : H x = none) (ndx : H dx = none) (hk : ∀ b o, b ≠ x → (upd (upd H dx (.own x)) x (.ins CP dx [])) b = some o → H' b = some o) : Same H H' := fun b o hb =>
  hk b o (fun e => by subst e; rw [nx] at hb; cases hb) (by rw [upd_ne (fun e => by subst e; rw [nx] at hb; cases hb), upd_ne (fun e => by subst e; rw [ndx] at hb; cases hb)]; exact hb)
/-! ### what a row bids -/
def firmS : Str := Str.ofString "firm"
def digs : Str := Str.ofString "0123456789"
def nms : List Str := (["face", "size", "wide", "drop", "indent", "before"] : List String).map Str.ofString
/-- a digit as text -/
def digS (d : Nat) : Str := if d = 1 then Str.ofString "1" else Str.ofString "2"
def bid (nm : Str) (d : Nat) (f : Bool) : List Str := if f = true then [nm, digS d, firmS] else [nm, digS d]
def bidS (nm : Str) (d : Nat) (f : Bool) : Str := Txt.join blankS (bid nm d f)
theorem nms_free : ∀ n ∈ nms, (32 : Nat) ∉ tl n ∧ n.length ≤ 6 := by decide +kernel
theorem digS_cps {d : Nat} (h : d = 1 ∨ d = 2) : digS d = ⟨#[48 + d]⟩ ∧ (32 : Nat) ∉ tl (digS d) ∧ PySem.intText? (digS d) = some (d : Int) := by
  rcases h with rfl | rfl
  · exact ⟨str_eq (by decide +kernel), by decide +kernel, by decide +kernel⟩
  · exact ⟨str_eq (by decide +kernel), by decide +kernel, by decide +kernel⟩
theorem wds_bid {nm : Str} {d : Nat} {f : Bool} (hn : nm ∈ nms) (hd : d = 1 ∨ d = 2) : wds (bidS nm d f) = bid nm d f := by
  unfold wds bidS
  refine TL.split_join (s := 32) (S := []) tl_blank (by decide +kernel) ?_ ?_
  · unfold bid; split <;> simp
  · intro p hp
    have h1 := (nms_free nm hn).1
    have h2 := (digS_cps hd).2.1
    have h3 : (32 : Nat) ∉ tl firmS := by decide +kernel
    unfold bid at hp
    split at hp
    · simp only [List.mem_cons, List.not_mem_nil, or_false] at hp
      rcases hp with rfl | rfl | rfl <;> assumption
    · simp only [List.mem_cons, List.not_mem_nil, or_false] at hp
      rcases hp with rfl | rfl <;> assumption
/-- the bounds of the properties -/
def rngs : List (Str × Int × Int) := [(Str.ofString "face", 0, 2), (Str.ofString "size", 1, 3), (Str.ofString "wide", 0, 3), (Str.ofString "drop", 0, 3), (Str.ofString "indent", 0, 9), (Str.ofString "before", 0, 9)]
theorem rngs_ok : ∀ n ∈ nms, ∃ x ∈ rngs, x.1 = n := by
  intro n hn
  simp only [nms, List.map_cons, List.map_nil, List.mem_cons, List.not_mem_nil, or_false] at hn
  rcases hn with rfl | rfl | rfl | rfl | rfl | rfl
  · exact ⟨_, by simp only [rngs]; exact List.mem_cons_self, rfl⟩
  · exact ⟨_, by simp only [rngs]; exact List.mem_cons_of_mem _ (List.mem_cons_self), rfl⟩
  · exact ⟨_, by simp only [rngs]; exact List.mem_cons_of_mem _ (List.mem_cons_of_mem _ (List.mem_cons_self)), rfl⟩
  · exact ⟨_, by simp only [rngs]; exact List.mem_cons_of_mem _ (List.mem_cons_of_mem _ (List.mem_cons_of_mem _ (List.mem_cons_self))), rfl⟩
  · exact ⟨_, by simp only [rngs]; exact List.mem_cons_of_mem _ (List.mem_cons_of_mem _ (List.mem_cons_of_mem _ (List.mem_cons_of_mem _ (List.mem_cons_self)))), rfl⟩
  · exact ⟨_, by simp only [rngs]; exact List.mem_cons_of_mem _ (List.mem_cons_of_mem _ (List.mem_cons_of_mem _ (List.mem_cons_of_mem _ (List.mem_cons_of_mem _ (List.mem_cons_self))))), rfl⟩
theorem rngs_in : ∀ x ∈ rngs, x.2.1 ≤ 1 ∧ 2 ≤ x.2.2 := by decide +kernel
structure Rngs (K : PySem.W.Frag) (w : World) (RD : Addr) : Prop where
  kd : ∃ es n, KDict K w RD es n
  at_ : ∀ x ∈ rngs, ∃ a o its n t1 t2, PySem.W.nsIn K RD x.1 = some (some (.ref a)) ∧ K.lookup a = some o ∧ o.cls = .type "tuple" ∧ o.data = .seq its n ∧ its = #[.int x.2.1 t1, .int x.2.2 t2]
structure Shc (mg : Str → Option Value) (RD : Addr) (u1 u2 u3 : Tok) : Prop where
  g_MOST_ROWS : mg "MOST_ROWS" = some (.int 12 u1)
  g_DIGITS : mg "DIGITS" = some (.str digs u2)
  g_FIRM : mg "FIRM" = some (.str firmS u3)
  g_RANGES : mg "RANGES" = some (.ref RD)
section
variable {P : Program} {w : World} {K : PySem.W.Frag} {mg : Str → Option Value} {base : Heap} {t1 t2 t3 t4 t5 t6 u1 u2 u3 : Tok}
def spValue : Sp := fun vs H Q _ => ∃ (nm : Str) (d : Nat) (f : Bool), vs = [.str (bidS nm d f)] ∧ nm ∈ nms ∧ (d = 1 ∨ d = 2) ∧ (bidS nm d f).length ≤ 100 ∧ ∀ H' t, Same H H' → H' t = some (.tup [.str nm, .int (d : Int), .bl f]) → Q (.ref t) H'
abbrev nVa : List Str := ["text", "words", "firm", "name", "digits", "value", "least", "greatest"]
theorem scValue : FnScope nVa ["text"] (defScope sValue) := ⟨rfl, rfl, rfl, by decide +kernel, rfl, by decide +kernel, by decide +kernel⟩
theorem ok_value {f RD : Addr} {fd : FuncData} (B : Blt mg) (U : Shc mg RD u1 u2 u3) (R : Rngs K w RD) (F : Fun K "_read_value" "_read_value" sValue f fd) : FnOk P w K mg base CX0 1 f fd ["text"] spValue := by
  obtain ⟨es, en, D⟩ := R.kd
  refine F.ok scValue (fun vs H Q E h => ?_) (fun cdv A0 outer s H vs Q E hr h => ?_)
  · obtain ⟨nm, d, f, rfl, _⟩ := h; rfl
  · obtain ⟨nm, d, f, rfl, hnm, hd, hzl, q⟩ := h
    refine ⟨_, (pss_cons (ps_set (i := 1) scValue.nd rfl (.inl rfl) (pe_split (pv 0) pe_str))
      (pss_cons (ps_set (i := 2) scValue.nd rfl (.inl rfl) (pe_and (pe_cmpR op_eq (pe_callB call_len (by rfl) B.len PySem.boot_len (pa_cons (pv 1) pa_nil)) pe_int (nomark _)) (pe_one (pe_cmpR op_eq (pe_ix ix_list (pv 1) pe_int (fun _ _ => rfl)) (pe_glob (v := .str firmS) (by rfl) U.g_FIRM ⟨_, rfl⟩) (nomark _)))))
      (pss_cons (ps_if (PW.pt (pw_and (pt_cmpR op_ne (pe_callB call_len (by rfl) B.len PySem.boot_len (pa_cons (pv 1) pa_nil)) pe_int (nomark _)) (pw_and1 (pt_not (pt_val (pv 2))))))
      (pss_one (ps_ret pe_non))
      pss_nil)
      (pss_cons (ps_par (i := 3) (j := 4) (by rfl) scValue.nd rfl rfl (by decide) rfl rfl (pa_cons (pe_ix ix_list (pv 1) pe_int (fun _ _ => rfl)) (pa_cons (pe_ix ix_list (pv 1) pe_int (fun _ _ => rfl)) pa_nil)) (by rfl))
      (pss_cons (ps_if (PW.pt (pw_or (pt_cmpR (op_notIn_kd D) (pv 3) (pe_glob (v := .ref RD) (by rfl) U.g_RANGES rfl) (by with_unfolding_all rfl)) (pw_or (pt_cmpR op_ne (pe_callB call_len (by rfl) B.len PySem.boot_len (pa_cons (pv 4) pa_nil)) pe_int (nomark _)) (pw_or1 (pt_cmpR op_notIn_sign (pv 4) (pe_glob (v := .str digs) (by rfl) U.g_DIGITS ⟨_, rfl⟩) (by with_unfolding_all rfl))))))
      (pss_one (ps_ret pe_non))
      pss_nil)
      (pss_cons (ps_set (i := 5) scValue.nd rfl (.inl rfl) (pe_callTy call_int_str (by rfl) B.int (by decide +kernel) (pa_cons (pv 4) pa_nil)))
      (pss_cons (ps_asg (pe_ix ix_kdict (pe_glob (v := .ref RD) (by rfl) U.g_RANGES rfl) (pv 3) (fun _ _ => rfl)) (pg_tup rfl (pgs_cons (pg_name (i := 6) scValue.nd rfl (.inl rfl)) (pgs_cons (pg_name (i := 7) scValue.nd rfl (.inl rfl)) pgs_nil))))
      (pss_cons (ps_if (pt_not (pt_chain op_le op_le (pv 6) (pv 5) (pv 7)))
      (pss_one (ps_ret pe_non))
      pss_nil)
      (pss_one (ps_ret (pe_tup (pa_cons (pv 3) (pa_cons (pv 5) (pa_cons (pv 2) pa_nil)))))))))))))), ?_⟩
    obtain ⟨c1, c2, c3⟩ := digS_cps hd
    obtain ⟨x, hx, hxn⟩ := rngs_ok nm hnm
    obtain ⟨a, o, its, n, tk1, tk2, e1, e2, e3, e4, e5⟩ := R.at_ x hx
    obtain ⟨b1, b2⟩ := rngs_in x hx
    rw [hxn] at e1
    refine ⟨.str _, rfl, ⟨_, rfl⟩, bidS nm d f, blankS, rfl, rfl, by decide +kernel, by rw [sizeLine_eq]; omega, fun L nL => ?_⟩
    rw [show (Txt.split (bidS nm d f) blankS) = bid nm d f from wds_bid hnm hd]
    have s1 := same_new nL (o := .lst ((bid nm d f).map V.str))
    have hL : (upd H L (.lst ((bid nm d f).map V.str))) L = some (.lst ((bid nm d f).map V.str)) := upd_same
    generalize upd H L (.lst ((bid nm d f).map V.str)) = H1 at s1 hL ⊢
    have din : (!decide (48 + d ∈ digs.cps.toList)) = false := by rcases hd with rfl | rfl <;> decide +kernel
    have tail : ∀ f : Bool, H1 L = some (.lst ((bid nm d f).map V.str)) → True := fun _ _ => trivial
    have hd2 : (d : Int) = 1 ∨ (d : Int) = 2 := by omega
    have ltu : (decide (x.2.1 ≤ (d : Int))) = true := decide_eq_true (by omega)
    have lth : (decide ((d : Int) ≤ x.2.2)) = true := decide_eq_true (by omega)
    have tupA : ∀ H : Hp, SqT K H a [.int x.2.1, .int x.2.2] := fun H => .inr ⟨o, its, n, e2, e3, e4, by rw [e5]; show 2 ≤ sizeLine; decide, by rw [e5]; exact .cons ⟨tk1, rfl⟩ (.cons ⟨tk2, rfl⟩ .nil)⟩
    cases f with
    | true =>
      have hL' : H1 L = some (.lst [.str nm, .str ⟨#[48 + d]⟩, .str firmS]) := by rw [hL]; show some (HO.lst [.str nm, .str (digS d), .str firmS]) = _; rw [c1]
      refine ⟨.ref L, rfl, .ref L, 3, rfl, .inl ⟨_, SqL.of hL', rfl⟩, rfl, _, rfl, ?_⟩
      rw [eqI, decide_eq_true (show ((3 : Nat) : Int) = 3 by decide)]
      refine iteT ⟨.ref L, rfl, L, _, 2, .str firmS, rfl, rfl, SqL.of hL', atI_nat (j := 2) rfl, rfl, ?_⟩
      rw [decide_eq_true (p := V.str firmS = V.str firmS) rfl]
      refine ⟨.ref L, rfl, .ref L, 3, rfl, .inl ⟨_, SqL.of hL', rfl⟩, rfl, _, rfl, ?_⟩
      rw [eqI, decide_eq_false (show ¬ ((3 : Nat) : Int) = 2 by decide)]
      refine iteT ⟨.bl true, rfl, true, rfl, iteF ?_⟩
      refine ⟨.ref L, rfl, L, _, 0, .str nm, rfl, rfl, SqL.of hL', atI_nat (j := 0) rfl, .ref L, rfl, L, _, 1, .str ⟨#[48 + d]⟩, rfl, rfl, SqL.of hL', atI_nat (j := 1) rfl, .str nm, .str ⟨#[48 + d]⟩, rfl, ?_⟩
      refine ⟨.str nm, rfl, nm, some (.ref a), rfl, rfl, e1, _, rfl, iteF ?_⟩
      refine ⟨.str ⟨#[48 + d]⟩, rfl, .str ⟨#[48 + d]⟩, 1, rfl, ⟨by show 1 ≤ sizeLine; decide, rfl⟩, rfl, _, rfl, ?_⟩
      rw [eqI, decide_eq_true (show ((1 : Nat) : Int) = 1 by decide)]
      refine iteF ⟨.str ⟨#[48 + d]⟩, rfl, 48 + d, digs, rfl, rfl, _, rfl, ?_⟩
      rw [din]
      refine iteF ⟨.str ⟨#[48 + d]⟩, rfl, ⟨#[48 + d]⟩, (d : Int), rfl, by rw [← c1]; exact c3, by show 1 ≤ 640; decide, ?_⟩
      refine ⟨.str nm, rfl, RD, nm, .ref a, rfl, rfl, ⟨es, en, .ref a, D.at_, D.lit, e1, rfl⟩, a, _, rfl, tupA _, rfl, .int x.2.1, _, rfl, .int x.2.2, _, rfl, rfl, ?_⟩
      refine ⟨.int x.2.1, rfl, .int (d : Int), rfl, x.2.1, (d : Int), rfl, rfl, _, rfl, ?_⟩
      rw [ltu]
      refine iteT ⟨.int x.2.2, rfl, (d : Int), x.2.2, rfl, rfl, _, rfl, ?_⟩
      rw [lth]
      refine iteF ⟨.str nm, rfl, .int (d : Int), rfl, .bl true, rfl, by show 3 ≤ sizeLine; decide, fun t nt => q _ t (s1.trans (same_new nt)) upd_same⟩
    | false =>
      have hL' : H1 L = some (.lst [.str nm, .str ⟨#[48 + d]⟩]) := by rw [hL]; show some (HO.lst [.str nm, .str (digS d)]) = _; rw [c1]
      refine ⟨.ref L, rfl, .ref L, 2, rfl, .inl ⟨_, SqL.of hL', rfl⟩, rfl, _, rfl, ?_⟩
      rw [eqI, decide_eq_false (show ¬ ((2 : Nat) : Int) = 3 by decide)]
      refine iteF ?_
      refine ⟨.ref L, rfl, .ref L, 2, rfl, .inl ⟨_, SqL.of hL', rfl⟩, rfl, _, rfl, ?_⟩
      rw [eqI, decide_eq_true (show ((2 : Nat) : Int) = 2 by decide)]
      refine iteF (iteF ?_)
      refine ⟨.ref L, rfl, L, _, 0, .str nm, rfl, rfl, SqL.of hL', atI_nat (j := 0) rfl, .ref L, rfl, L, _, 1, .str ⟨#[48 + d]⟩, rfl, rfl, SqL.of hL', atI_nat (j := 1) rfl, .str nm, .str ⟨#[48 + d]⟩, rfl, ?_⟩
      refine ⟨.str nm, rfl, nm, some (.ref a), rfl, rfl, e1, _, rfl, iteF ?_⟩
      refine ⟨.str ⟨#[48 + d]⟩, rfl, .str ⟨#[48 + d]⟩, 1, rfl, ⟨by show 1 ≤ sizeLine; decide, rfl⟩, rfl, _, rfl, ?_⟩
      rw [eqI, decide_eq_true (show ((1 : Nat) : Int) = 1 by decide)]
      refine iteF ⟨.str ⟨#[48 + d]⟩, rfl, 48 + d, digs, rfl, rfl, _, rfl, ?_⟩
      rw [din]
      refine iteF ⟨.str ⟨#[48 + d]⟩, rfl, ⟨#[48 + d]⟩, (d : Int), rfl, by rw [← c1]; exact c3, by show 1 ≤ 640; decide, ?_⟩
      refine ⟨.str nm, rfl, RD, nm, .ref a, rfl, rfl, ⟨es, en, .ref a, D.at_, D.lit, e1, rfl⟩, a, _, rfl, tupA _, rfl, .int x.2.1, _, rfl, .int x.2.2, _, rfl, rfl, ?_⟩
      refine ⟨.int x.2.1, rfl, .int (d : Int), rfl, x.2.1, (d : Int), rfl, rfl, _, rfl, ?_⟩
      rw [ltu]
      refine iteT ⟨.int x.2.2, rfl, (d : Int), x.2.2, rfl, rfl, _, rfl, ?_⟩
      rw [lth]
      refine iteF ⟨.str nm, rfl, .int (d : Int), rfl, .bl false, rfl, by show 3 ≤ sizeLine; decide, fun t nt => q _ t (s1.trans (same_new nt)) upd_same⟩
/-! ### _read_row -/
def colS : Str := Str.ofString ": "
theorem tl_col : tl colS = [58, 32] := by decide +kernel
theorem sep_no58 {l : Nat} (h : l ≤ 2) : (58 : Nat) ∉ sepL l := by
  match l, h with
  | 0, _ => decide
  | 1, _ => decide
  | 2, _ => decide
theorem textL_no58 {x : Tst} (gx : GoodT x) {rs : List (Nat × Tst)} (gr : ∀ r ∈ rs, r.1 ≤ 2 ∧ GoodT r.2) : (58 : Nat) ∉ textL x rs := by
  unfold textL
  intro hm
  rcases List.mem_append.mp hm with h | h
  · exact word_free gx (by decide) (by decide) (by decide) h
  · obtain ⟨r, hr, h1⟩ := List.mem_flatMap.mp h
    rcases List.mem_append.mp h1 with h2 | h2
    · exact sep_no58 (gr r hr).1 h2
    · exact word_free (gr r hr).2 (by decide) (by decide) (by decide) h2
/-- a row as it is written -/
structure RowText (z zp : Str) (x : Tst) (rs : List (Nat × Tst)) (nm : Str) (d : Nat) (f : Bool) : Prop where
  z : z = zp ++ colS ++ bidS nm d f
  p : tl zp = textL x rs
  gx : GoodT x
  gr : ∀ r ∈ rs, r.1 ≤ 2 ∧ GoodT r.2
  gl : rs.length ≤ 3
  nm : nm ∈ nms
  d : d = 1 ∨ d = 2
abbrev PI (P : Program) (w : World) (K : PySem.W.Frag) (mg : Str → Option Value) (base : Heap) (f CP C : Addr) (fd : FuncData) : Prop := FnOk P w K mg base (L2.CX P w) 6 f fd ["self", "text"] (spPInit CP C)
theorem bid_len {nm : Str} {d : Nat} {f : Bool} (hn : nm ∈ nms) (hd : d = 1 ∨ d = 2) : (bidS nm d f).length ≤ 20 := by
  have h := (nms_free nm hn).2
  have h1 : (digS d).length = 1 := by rw [(digS_cps hd).1]; rfl
  have e : tl (bidS nm d f) = TL.joinL [32] ((bid nm d f).map tl) := by
    unfold bidS
    have h2 : TL.tl (Txt.join blankS (bid nm d f)) = TL.joinL (TL.tl blankS) ((bid nm d f).map TL.tl) := by rw [TL.join_eq, TL.tl_join]
    rw [show TL.tl blankS = [32] from tl_blank] at h2
    exact h2
  rw [← tl_len, e]
  have h2 := tl_len nm; have h3 := tl_len (digS d)
  have h4 : (tl firmS).length = 4 := by decide +kernel
  cases f with
  | true =>
    show (TL.joinL [32] [tl nm, tl (digS d), tl firmS]).length ≤ 20
    simp only [TL.joinL, List.length_append, List.length_cons, List.length_nil]
    omega
  | false =>
    show (TL.joinL [32] [tl nm, tl (digS d)]).length ≤ 20
    simp only [TL.joinL, List.length_append, List.length_cons, List.length_nil]
    omega
theorem pat_len {z zp : Str} {x : Tst} {rs : List (Nat × Tst)} {nm : Str} {d : Nat} {f : Bool} (h : RowText z zp x rs nm d f) : zp.length ≤ 77 := by
  rw [← tl_len, h.p]
  have := textL_len h.gx rs h.gr
  have := h.gl
  omega
def spRRow (CP : Addr) : Sp := fun vs H Q _ => ∃ (z zp : Str) (n : Int) (x : Tst) (rs : List (Nat × Tst)) (nm : Str) (d : Nat) (f : Bool), vs = [.str z, .int n] ∧ RowText z zp x rs nm d f ∧
  ∀ H' t p, Same H H' → H' t = some (.tup [.ref p, .str nm, .int (d : Int), .bl f]) → PatAt CP H' p (x :: rs.map (·.2)) zp → Q (.ref t) H'
abbrev nRR : List Str := ["line", "number", "head", "_", "tail", "pattern", "wrong", "told", "name", "value", "firm"]
theorem scRRow : FnScope nRR ["line", "number"] (defScope sRRow) := ⟨rfl, rfl, rfl, by decide +kernel, rfl, by decide +kernel, by decide +kernel⟩
theorem ok_rrow {f RD CP C fI f_pinit f_value : Addr} {fd fdI fd_pinit fd_value : FuncData} (B : Blt mg) (U : Shc mg RD u1 u2 u3) (R : Rngs K w RD) (T : Txt K mg CP) (M : Mk K CP f_pinit) (N : BadP K mg C fI fdI) (F : Fun K "_read_row" "_read_row" sRRow f fd)
    (G_pinit : PI P w K mg base f_pinit CP C fd_pinit) (b_pinit : Binds K fd_pinit ["self", "text"] [])
    (F_value : Fun K "_read_value" "_read_value" sValue f_value fd_value) (b_value : Binds K fd_value ["text"] []) (g_value : mg "_read_value" = some (.ref f_value)) :
    FnOk P w K mg base CX0 8 f fd ["line", "number"] (spRRow CP) := by
  have G_value : FnOk P w K mg base CX0 1 f_value fd_value ["text"] spValue := ok_value B U R F_value
  refine F.ok scRRow (fun vs H Q E h => ?_) (fun cdv A0 outer s H vs Q E hr h => ?_)
  · obtain ⟨z, zp, n, x, rs, nm, d, f, rfl, _⟩ := h; rfl
  · obtain ⟨z, zp, n, x, rs, nm, d, f, rfl, ht, q⟩ := h
    have hr1 : Room 1 _ := hr.mono (by decide)
    refine ⟨_, pss_cons (ps_asg (pe_partition (pv 0) pe_str) (pg_tup rfl (pgs_cons (pg_name (i := 2) scRRow.nd rfl (.inl rfl)) (pgs_cons (pg_name (i := 3) scRRow.nd rfl (.inl rfl)) (pgs_cons (pg_name (i := 4) scRRow.nd rfl (.inl rfl)) pgs_nil)))))
      (pss_cons (ps_try_as (i := 6) (Wout := fun _ _ _ _ => False) rfl rfl scRRow.nd rfl rfl ⟨rfl, by decide, .inl N.gC⟩ takes0 (fun W pn xe tk _ => pss_one (ps_set (i := 5) scRRow.nd rfl (.inl rfl) (R6.pe_makeS M G_pinit hr (by rfl) T.mgC b_pinit .nil (fun σ => passAt tk σ) (pa_cons (pv 2) pa_nil)))) (fun a oe cls d pn hz hf => pss_never))
      (pss_cons (ps_set (i := 7) scRRow.nd rfl (.inl rfl) (pe_call G_value hr1 (by rfl) g_value F_value.kp b_value .nil pass0 (pa_cons (pv 4) pa_nil)))
      (pss_cons (ps_if (pt_cmpR op_isN (pv 7) pe_non (nomark _)) (pss_one ps_never) pss_nil)
      (pss_cons (ps_asg (pv 7) (pg_tup rfl (pgs_cons (pg_name (i := 8) scRRow.nd rfl (.inl rfl)) (pgs_cons (pg_name (i := 9) scRRow.nd rfl (.inl rfl)) (pgs_cons (pg_name (i := 10) scRRow.nd rfl (.inl rfl)) pgs_nil)))))
      (pss_one (ps_ret (pe_tup (pa_cons (pv 5) (pa_cons (pv 8) (pa_cons (pv 9) (pa_cons (pv 10) pa_nil))))))))))), ?_⟩
    have hpl := pat_len ht
    have hbl := bid_len (f := f) ht.nm ht.d
    have hzl : z.length ≤ 200 := by
      rw [ht.z, len_add, len_add]
      have : colS.length = 2 := by decide +kernel
      omega
    have hpart : Txt.partition z colS = (zp, colS, bidS nm d f) := by
      rw [ht.z]
      exact TL.partition_app (y := colS) (s := 58) (S := [32]) tl_col (by rw [show TL.tl zp = textL x rs from ht.p]; exact textL_no58 ht.gx ht.gr)
    have hrd := good_reads ht.p ht.gx ht.gr ht.gl
    refine ⟨.str z, rfl, ⟨z, rfl⟩, z, colS, rfl, rfl, by decide +kernel, by rw [sizeLine_eq]; omega, fun p0 np0 => ?_⟩
    rw [hpart]
    have s1 := same_new np0 (o := .tup [.str zp, .str colS, .str (bidS nm d f)])
    refine ⟨p0, _, rfl, SqT.of upd_same, rfl, .str zp, _, rfl, .str colS, _, rfl, .str (bidS nm d f), _, rfl, rfl, ?_⟩
    generalize upd H p0 (.tup [.str zp, .str colS, .str (bidS nm d f)]) = H1 at s1 ⊢
    refine ⟨.str zp, rfl, fun p dx np ndx hne => ⟨p, dx, zp, rfl, upd_same, by omega, fun hno => absurd (hno.symm.trans hrd) (by simp), fun ts hts H2 hk2 hP => ⟨rfl, ?_⟩⟩⟩
    obtain rfl : ts = x :: rs.map (·.2) := Option.some.inj (hts.symm.trans hrd)
    have s12 : Same H1 H2 := made_same np ndx hk2
    refine ⟨.str (bidS nm d f), rfl, nm, d, f, rfl, ht.nm, ht.d, by omega, fun H3 t s23 hT => ?_⟩
    refine ⟨.ref t, rfl, rfl, _, rfl, iteF ⟨.ref t, rfl, t, _, rfl, SqT.of hT, rfl, .str nm, _, rfl, .int (d : Int), _, rfl, .bl f, _, rfl, rfl, ?_⟩⟩
    exact ⟨.ref p, rfl, .str nm, rfl, .int (d : Int), rfl, .bl f, rfl, by show 4 ≤ sizeLine; decide, fun t2 nt2 => q _ t2 p (s1.trans (s12.trans (s23.trans (same_new nt2)))) upd_same ((hP.same s23).same (same_new nt2))⟩
end
end K11

set_option maxRecDepth 100000
set_option maxHeartbeats 4000000
namespace K11
open PySem PySem.Spec PyProof.Rows L2 R8
/-! ### sheets -/
abbrev RowV := List Tst × Bool
def Reads (z : Str) (r : RowV) : Prop := ∃ (zp : Str) (x : Tst) (rs : List (Nat × Tst)) (nm : Str) (d : Nat), RowText z zp x rs nm d r.2 ∧ r.1 = x :: rs.map (·.2)
def RowAt (CP : Addr) (H : Hp) (v : V) (r : RowV) : Prop := ∃ (t p : Addr) (nm zp : Str) (d : Int), v = .ref t ∧ H t = some (.tup [.ref p, .str nm, .int d, .bl r.2]) ∧ PatAt CP H p r.1 zp
theorem RowAt.same {CP : Addr} {H H' : Hp} {v : V} {r : RowV} (h : RowAt CP H v r) (s : Same H H') : RowAt CP H' v r := by
  obtain ⟨t, p, nm, zp, d, h1, h2, h3⟩ := h
  exact ⟨t, p, nm, zp, d, h1, s _ _ h2, h3.same s⟩
theorem RowAt.keep {CP D : Addr} {H H' : Hp} {v : V} {r : RowV} (h : RowAt CP H v r) (s : ∀ b o, b ≠ D → H b = some o → H' b = some o) (h1 : ∀ ys, H D ≠ some (.tup ys)) (h2 : ∀ dx fs, H D = some (.ins CP dx fs) → fs.lookup ("tests" : Str) = none) : RowAt CP H' v r := by
  obtain ⟨t, p, nm, zp, d, e1, e2, dx, fs, a, us, g1, g2, g3, g4, g5⟩ := h
  have tt : ∀ b ys, H b = some (.tup ys) → H' b = some (.tup ys) := fun b ys e => s b _ (fun hb => h1 ys (hb ▸ e)) e
  refine ⟨t, p, nm, zp, d, e1, tt _ _ e2, dx, fs, a, us, s _ _ (fun hb => ?_) g1, g2, g3, tt _ _ g4, g5.tups tt⟩
  have := h2 dx fs (hb ▸ g1)
  rw [g2] at this; cases this
def RowsAt (CP : Addr) (H : Hp) (us : List V) (rows : List RowV) : Prop := us.length = rows.length ∧ ∀ (i : Nat) v r, us[i]? = some v → rows[i]? = some r → RowAt CP H v r
theorem RowsAt.same {CP : Addr} {H H' : Hp} {us : List V} {rows : List RowV} (h : RowsAt CP H us rows) (s : Same H H') : RowsAt CP H' us rows := ⟨h.1, fun i v r h1 h2 => (h.2 i v r h1 h2).same s⟩
theorem RowsAt.keep {CP D : Addr} {H H' : Hp} {us : List V} {rows : List RowV} (h : RowsAt CP H us rows) (s : ∀ b o, b ≠ D → H b = some o → H' b = some o) (h1 : ∀ ys, H D ≠ some (.tup ys)) (h2 : ∀ dx fs, H D = some (.ins CP dx fs) → fs.lookup ("tests" : Str) = none) : RowsAt CP H' us rows := ⟨h.1, fun i v r e1 e2 => (h.2 i v r e1 e2).keep s h1 h2⟩
theorem RowsAt.nil {CP : Addr} {H : Hp} : RowsAt CP H [] [] := ⟨rfl, fun i v r h => by simp at h⟩
theorem RowsAt.snoc {CP : Addr} {H : Hp} {us : List V} {rows : List RowV} {v : V} {r : RowV} (h : RowsAt CP H us rows) (g : RowAt CP H v r) : RowsAt CP H (us ++ [v]) (rows ++ [r]) := by
  refine ⟨by rw [List.length_append, List.length_append, h.1]; rfl, fun i v' r' h1 h2 => ?_⟩
  by_cases hi : i < us.length
  · rw [List.getElem?_append_left hi] at h1
    rw [List.getElem?_append_left (by rw [← h.1]; exact hi)] at h2
    exact h.2 i v' r' h1 h2
  · have hi' : us.length ≤ i := Nat.le_of_not_lt hi
    rw [List.getElem?_append_right hi'] at h1
    rw [List.getElem?_append_right (by rw [← h.1]; exact hi'), ← h.1] at h2
    have h0 : i - us.length = 0 := by
      have := (List.getElem?_eq_some_iff.mp h1).1
      simp at this; omega
    rw [h0] at h1 h2
    cases h1; cases h2; exact g
structure STxt (K : PySem.W.Frag) (mg : Str → Option Value) (C : Addr) : Prop where
  cl : Cls K C
  nL : NoAttr K C "_lines"
  nR : NoAttr K C "_rows"
  mgC : mg "Sheet" = some (.ref C)
def ShAt (CP C : Addr) (H : Hp) (p : Addr) (rows : List RowV) : Prop := ∃ dx fs l us, H p = some (.ins C dx fs) ∧ fs.lookup ("_rows" : Str) = some (.ref l) ∧ fs.lookup ("row" : Str) = none ∧ fs.lookup ("rank" : Str) = none ∧ H l = some (.lst us) ∧ RowsAt CP H us rows
theorem ShAt.same {CP C : Addr} {H H' : Hp} {p : Addr} {rows : List RowV} (h : ShAt CP C H p rows) (s : Same H H') : ShAt CP C H' p rows := by
  obtain ⟨dx, fs, l, us, h1, h2, h3, h3', h4, h5⟩ := h
  exact ⟨dx, fs, l, us, s _ _ h1, h2, h3, h3', s _ _ h4, h5.same s⟩
section
variable {P : Program} {w : World} {K : PySem.W.Frag} {mg : Str → Option Value} {base : Heap} {t1 t2 t3 t4 t5 t6 u1 u2 u3 : Tok}
def spSInit (CP CS : Addr) : Sp := fun vs H Q _ => ∃ (p dx a : Addr) (zs : List Str) (rows : List RowV), vs = [.ref p, .ref a] ∧ H p = some (.ins CS dx []) ∧ H a = some (.lst (zs.map V.str)) ∧ zs.length ≤ 12 ∧ zs.length = rows.length ∧
  (∀ (i : Nat) z r, zs[i]? = some z → rows[i]? = some r → Reads z r) ∧
  ∀ H', (∀ b o, b ≠ p → H b = some o → H' b = some o) → ShAt CP CS H' p rows → Q .non H'
abbrev nSI : List Str := ["self", "lines", "line", "index"]
theorem scSInit : FnScope nSI ["self", "lines"] (defScope sSInit) := ⟨rfl, rfl, rfl, by decide +kernel, rfl, by decide +kernel, by decide +kernel⟩
theorem ok_sinit {f RD CP CS C fI f_pinit f_value f_read_row : Addr} {fd fdI fd_pinit fd_value fd_read_row : FuncData} (B : Blt mg) (U : Shc mg RD u1 u2 u3) (R : Rngs K w RD) (T : Txt K mg CP) (TS : STxt K mg CS) (M : Mk K CP f_pinit) (N : BadP K mg C fI fdI) (F : Fun K "__init__" "Sheet.__init__" sSInit f fd)
    (G_pinit : PI P w K mg base f_pinit CP C fd_pinit) (b_pinit : Binds K fd_pinit ["self", "text"] [])
    (F_value : Fun K "_read_value" "_read_value" sValue f_value fd_value) (b_value : Binds K fd_value ["text"] []) (g_value : mg "_read_value" = some (.ref f_value))
    (F_read_row : Fun K "_read_row" "_read_row" sRRow f_read_row fd_read_row) (b_read_row : Binds K fd_read_row ["line", "number"] []) (g_read_row : mg "_read_row" = some (.ref f_read_row)) :
    FnOk P w K mg base CX0 9 f fd ["self", "lines"] (spSInit CP CS) := by
  have G_read_row : FnOk P w K mg base CX0 8 f_read_row fd_read_row ["line", "number"] (spRRow CP) := ok_rrow B U R T M N F_read_row G_pinit b_pinit F_value b_value g_value
  refine F.ok scSInit (fun vs H Q E h => ?_) (fun cdv A0 outer s H vs Q E hr h => ?_)
  · obtain ⟨p, dx, a, zs, rows, rfl, _⟩ := h; rfl
  · obtain ⟨p, dx, a, zs, rows, rfl, hp, ha, h8, hlx, hall, q⟩ := h
    refine ⟨_, (pss_cons (ps_if (pt_cmpR op_gt (pe_callB call_len (by rfl) B.len PySem.boot_len (pa_cons (pv 1) pa_nil)) (pe_glob (v := .int 12) (by rfl) U.g_MOST_ROWS ⟨_, rfl⟩) (nomark _))
      (pss_one ps_never)
      pss_nil)
      (pss_cons (ps_fld (pv 0) (pe_callTy call_list_of (by rfl) B.list (by decide +kernel) (pa_cons (pv 1) pa_nil)) rfl)
      (pss_one (ps_fld (pv 0) (pe_lc (own := [("index", 3), ("line", 2)]) (g := gTup K 2 (gCons (gName 3) (gCons (gName 2) gNil))) (tt := tYes) rfl scSInit.nd (pi_enum (by rfl) B.enum (pa_cons (pv 1) pa_nil)) (blkOk_by (N := nSI) (sc := defScope sSInit) (by decide +kernel)) (fun _ _ _ _ _ => (pg_tup rfl (pgs_cons (pg_name (i := 3) scSInit.nd rfl (.inl rfl)) (pgs_cons (pg_name (i := 2) scSInit.nd rfl (.inl rfl)) pgs_nil)))) (fun _ _ _ _ _ => pts_nil) (fun _ _ _ _ _ => (pe_call G_read_row hr (by rfl) g_read_row F_read_row.kp b_read_row .nil pass0 (pa_cons (pv 2) (pa_cons (pe_op op_add (pv 3) pe_int) pa_nil))))) rfl)))), ?_⟩
    have npa : a ≠ p := ne_of ha hp (by intro z; cases z)
    refine ⟨.ref a, rfl, .ref a, (zs.map V.str).length, rfl, .inl ⟨_, SqL.of ha, rfl⟩, _, 12, rfl, rfl, _, rfl, ?_⟩
    rw [decide_eq_false (by rw [List.length_map]; omega)]
    refine iteF ⟨.ref a, rfl, a, _, rfl, .inl (SqL.of ha), fun l1 nl1 => ?_⟩
    have npl1 : p ≠ l1 := ne_of_none hp nl1
    have s1 : Same H (upd H l1 (.lst (zs.map V.str))) := same_new nl1
    refine ⟨.ref p, rfl, p, CS, dx, [], rfl, s1 _ _ hp, TS.cl, TS.nL, (by show 0 < 1000; decide), ?_⟩
    have k1 : ∀ b o, b ≠ p → H b = some o → upd (upd H l1 (.lst (zs.map V.str))) p (.ins CS dx (putF "_lines" (.ref l1) [])) b = some o := fun b o h e => by rw [upd_ne h]; exact s1 _ _ e
    have hp1 : upd (upd H l1 (.lst (zs.map V.str))) p (.ins CS dx (putF "_lines" (.ref l1) [])) p = some (.ins CS dx (putF "_lines" (.ref l1) [])) := upd_same
    generalize upd (upd H l1 (.lst (zs.map V.str))) p (.ins CS dx (putF "_lines" (.ref l1) [])) = H1 at k1 hp1 ⊢
    have ha1 := k1 _ _ npa ha
    refine ⟨.ref a, rfl, a, _, rfl, SqL.of ha1, fun D hD => ?_⟩
    refine lc_it (walk_enum (K := K) (a := a) (xs := zs.map V.str)) (fun i H' => ∃ us, H' D = some (.lst us) ∧ us.length = i ∧ RowsAt CP H' us (rows.take i) ∧ Same H1 H')
      ⟨[], upd_same, rfl, RowsAt.nil, same_new hD⟩ (fun i H' _ ⟨_, _, _, _, s⟩ => SqL.of (s _ _ ha1)) ?_ ?_
    · rintro i v H' H'' hi ⟨us, hD', hl, hrow, sm⟩ ⟨t, x, y, rfl, nt, rfl, hx, hy⟩
      dsimp only at hx hy
      cases hx
      rw [List.length_map] at hi
      rw [List.getElem?_map, List.getElem?_eq_getElem hi] at hy
      cases hy
      have hxi : rows[i]? = some (rows[i]'(by omega)) := by simp
      obtain ⟨zp, x, rs, nm, d, ht, hts⟩ := hall i _ _ (List.getElem?_eq_getElem hi) hxi
      refine ⟨t, _, rfl, SqT.of upd_same, rfl, .int (i : Nat), _, rfl, .str zs[i], _, rfl, rfl, rfl, ?_⟩
      refine ⟨.str zs[i], rfl, .int (i : Nat), rfl, (i : Nat), 1, rfl, rfl, zs[i], zp, _, x, rs, nm, d, _, rfl, ht, fun H2 t2 p2 s2 hT hP => ?_⟩
      have s3 := (same_new nt).trans s2
      refine ⟨us, s3 _ _ hD', small1000 (by omega), us ++ [.ref t2], upd_same, by rw [List.length_append, hl]; rfl, ?_, same_at (sm.trans s3) hD⟩
      have e3 : rows.take (i + 1) = rows.take i ++ [rows[i]'(by omega)] := by rw [List.take_add_one, hxi]; rfl
      rw [e3]
      have hD2 : H2 D = some (.lst us) := s3 _ _ hD'
      have n1 : ∀ ys, H2 D ≠ some (.tup ys) := fun ys e => by rw [hD2] at e; cases e
      have n2 : ∀ dx fs, H2 D = some (.ins CP dx fs) → fs.lookup ("tests" : Str) = none := fun dx fs e => by rw [hD2] at e; cases e
      have kk : ∀ b o, b ≠ D → H2 b = some o → upd H2 D (.lst (us ++ [.ref t2])) b = some o := fun b o hb e => by rw [upd_ne hb]; exact e
      have hr2 : RowAt CP H2 (.ref t2) rows[i] := ⟨t2, p2, nm, zp, d, rfl, hT, by rw [hts]; exact hP⟩
      exact ((hrow.same s3).keep kk n1 n2).snoc (hr2.keep kk n1 n2)
    · rintro H' ⟨us, hD', hl, hrow, sm⟩
      rw [List.length_map] at hl hrow
      rw [hlx, List.take_length] at hrow
      refine ⟨.ref p, rfl, p, CS, dx, _, rfl, sm _ _ hp1, TS.cl, TS.nR, (by show 1 < 1000; decide), ?_⟩
      have npD : D ≠ p := Ne.symm (ne_of_none hp1 hD)
      refine q _ (fun b o h e => by rw [upd_ne h]; exact sm _ _ (k1 _ _ h e)) ⟨dx, _, D, us, upd_same, ?_, ?_, ?_, by rw [upd_ne npD]; exact hD', hrow.keep (D := p) (fun b o hb e => by rw [upd_ne hb]; exact e) (fun ys e => ?_) (fun dx' fs' e => ?_)⟩
      · rw [lookup_putF, if_pos rfl]
      · rw [lookup_putF, if_neg (by decide +kernel), lookup_putF, if_neg (by decide +kernel)]; rfl
      · rw [lookup_putF, if_neg (by decide +kernel), lookup_putF, if_neg (by decide +kernel)]; rfl
      · rw [sm _ _ hp1] at e; cases e
      · rw [sm _ _ hp1] at e; cases e
        rw [lookup_putF, if_neg (by decide +kernel)]; rfl
/-! ### row, rank -/
def spSRow (CP CS : Addr) : Sp := fun vs H Q _ => ∃ (p : Addr) (i : Nat) (rows : List RowV) (r : RowV), vs = [.ref p, .int (i : Int)] ∧ ShAt CP CS H p rows ∧ rows[i]? = some r ∧ rows.length ≤ 1000 ∧ ∀ v, RowAt CP H v r → Q v H
theorem scSRow : FnScope ["self", "index"] ["self", "index"] (defScope sSRow) := ⟨rfl, rfl, rfl, by decide +kernel, rfl, by decide +kernel, by decide +kernel⟩
theorem ok_srow {CP CS f : Addr} {fd : FuncData} (B : Blt mg) (TS : STxt K mg CS) (F : Fun K "row" "Sheet.row" sSRow f fd) : FnOk P w K mg base CX0 1 f fd ["self", "index"] (spSRow CP CS) := by
  refine F.ok scSRow (fun vs H Q E h => ?_) (fun cdv A0 outer s H vs Q E hr h => ?_)
  · obtain ⟨p, i, rows, r, rfl, _⟩ := h; rfl
  · obtain ⟨p, i, rows, r, rfl, ⟨dx, fs, l, us, hp, f1, f2, f3, hl, hR⟩, hr0, h9, q⟩ := h
    refine ⟨_, (pss_cons (ps_if (pt_not (pt_chain op_le op_lt pe_int (pv 1) (pe_callB call_len (by rfl) B.len PySem.boot_len (pa_cons (pe_fld (pv 0) rfl) pa_nil))))
      (pss_one ps_never)
      pss_nil)
      (pss_one (ps_ret (pe_ix ix_list (pe_fld (pv 0) rfl) (pv 1) (fun _ _ => rfl))))), ?_⟩
    have hlt := (List.getElem?_eq_some_iff.mp hr0).1
    have hlu : i < us.length := by rw [hR.1]; exact hlt
    have hv : us[i]? = some us[i] := List.getElem?_eq_getElem hlu
    refine ⟨.int (i : Nat), rfl, 0, (i : Int), rfl, rfl, _, rfl, ?_⟩
    rw [decide_eq_true (by omega)]
    refine iteT ⟨.ref p, rfl, p, CS, dx, fs, .ref l, rfl, hp, TS.cl, TS.nR, f1, .ref l, us.length, rfl, .inl ⟨_, SqL.of hl, rfl⟩, _, _, rfl, rfl, _, rfl, ?_⟩
    rw [decide_eq_true (by omega)]
    refine iteF ⟨.ref p, rfl, p, CS, dx, fs, .ref l, rfl, hp, TS.cl, TS.nR, f1, .int (i : Nat), rfl, l, _, (i : Int), us[i], rfl, rfl, SqL.of hl, atI_nat hv, q _ (hR.2 i _ _ hv hr0)⟩
def rkOf (r : RowV) (i : Nat) : P4 := ⟨r.2, ((r.1.filter asks).length : Nat), ((r.1.filter names).length : Nat), (i : Nat)⟩
def spSRank (CP CS CR : Addr) : Sp := fun vs H Q _ => ∃ (p : Addr) (i : Nat) (rows : List RowV) (r : RowV), vs = [.ref p, .int (i : Int)] ∧ ShAt CP CS H p rows ∧ rows[i]? = some r ∧ rows.length ≤ 1000 ∧ r.1.length ≤ 4 ∧ ∀ H' q, Same H H' → RankAt CR H' q (rkOf r i) → Q (.ref q) H'
abbrev nRk : List Str := ["self", "index", "row", "pattern"]
theorem scSRank : FnScope nRk ["self", "index"] (defScope sSRank) := ⟨rfl, rfl, rfl, by decide +kernel, rfl, by decide +kernel, by decide +kernel⟩
theorem ok_srank {CP CS CR f f_row f_rinit f_asked f_named pa_ pn_ : Addr} {fd fd_row fd_rinit fd_asked fd_named : FuncData} (B : Blt mg) (Z : Cst mg t1 t2 t3 t4 t5 t6) (T : Txt K mg CP) (TS : STxt K mg CS) (TR : RTxt K mg CR) (F : Fun K "rank" "Sheet.rank" sSRank f fd)
    (F_row : Fun K "row" "Sheet.row" sSRow f_row fd_row) (b_row : Binds K fd_row ["self", "index"] []) (m_row : Meth K CS "row" f_row)
    (M : Mk K CR f_rinit) (F_rinit : Fun K "__init__" "Rank.__init__" sRInit f_rinit fd_rinit) (b_rinit : Binds K fd_rinit nRI [])
    (F_asked : Fun K "asked" "Pattern.asked" sAsked f_asked fd_asked) (b_asked : Binds K fd_asked ["self"] []) (pa : PropOf K CP "asked" pa_ f_asked)
    (F_named : Fun K "named" "Pattern.named" sNamed f_named fd_named) (b_named : Binds K fd_named ["self"] []) (pn : PropOf K CP "named" pn_ f_named) :
    FnOk P w K mg base CX0 3 f fd ["self", "index"] (spSRank CP CS CR) := by
  have G_row : FnOk P w K mg base CX0 1 f_row fd_row ["self", "index"] (spSRow CP CS) := ok_srow B TS F_row
  have G_rinit : FnOk P w K mg base CX0 1 f_rinit fd_rinit nRI (spRInit CR) := ok_rinit TR F_rinit
  have G_asked : FnOk P w K mg base CX0 1 f_asked fd_asked ["self"] (spCount CP fun ts => (ts.filter asks).length) := ok_asked B T F_asked
  have G_named : FnOk P w K mg base CX0 1 f_named fd_named ["self"] (spCount CP fun ts => (ts.filter names).length) := ok_named B Z T F_named
  refine F.ok scSRank (fun vs H Q E h => ?_) (fun cdv A0 outer s H vs Q E hr h => ?_)
  · obtain ⟨p, i, rows, r, rfl, _⟩ := h; rfl
  · obtain ⟨p, i, rows, r, rfl, hS, hr0, h9, h4, q⟩ := h
    have hr2 : Room 2 _ := hr
    have hr1 : Room 1 _ := hr.mono (by decide)
    obtain ⟨dx, fs, l, us, hp, f1, f2, f3, hl, hR⟩ := id hS
    refine ⟨_, (pss_cons (ps_set (i := 2) scSRank.nd rfl (.inl rfl) (pe_meth (pv 0) TS.cl m_row G_row hr1 b_row .nil pass0 (pa_cons (pv 1) pa_nil)))
      (pss_cons (ps_set (i := 3) scSRank.nd rfl (.inl rfl) (pe_ix ix_tup (pv 2) pe_int (fun _ _ => rfl)))
      (pss_one (ps_ret (pe_make M G_rinit hr2 (by rfl) TR.mgC b_rinit .nil pass0 (pa_cons (pe_ix ix_tup (pv 2) pe_int (fun _ _ => rfl)) (pa_cons (pe_prop (pv 3) T.cl pa G_asked hr2 b_asked .nil pass0 rfl) (pa_cons (pe_prop (pv 3) T.cl pn G_named hr2 b_named .nil pass0 rfl) (pa_cons (pv 1) pa_nil))))))))), ?_⟩
    refine ⟨.ref p, rfl, p, dx, fs, rfl, hp, f2, .int (i : Nat), rfl, p, i, rows, r, rfl, hS, hr0, h9, fun v hv => ?_⟩
    obtain ⟨t, pp, nm, zp, d, rfl, ht, hP⟩ := hv
    obtain ⟨dy, gs, fa, fus, hpp, ff1, ff2, hfa, hfT⟩ := id hP
    refine ⟨.ref t, rfl, t, _, 0, .ref pp, rfl, rfl, SqT.of ht, atI_nat (j := 0) rfl, ?_⟩
    refine ⟨.ref t, rfl, t, _, 3, .bl r.2, rfl, rfl, SqT.of ht, atI_nat (j := 3) rfl, ?_⟩
    refine ⟨.ref pp, rfl, pp, dy, gs, rfl, hpp, pp, r.1, zp, rfl, hP, h4, fun H2 s2 => ?_⟩
    refine ⟨.ref pp, rfl, pp, dy, gs, rfl, s2 _ _ hpp, pp, r.1, zp, rfl, hP.same s2, h4, fun H3 s3 => ?_⟩
    refine ⟨.int (i : Nat), rfl, fun x dz nx ndz hne => ⟨x, dz, rkOf r i, rfl, upd_same, fun H4 hk4 hA => ⟨rfl, ?_⟩⟩⟩
    exact q _ x (s2.trans (s3.trans (made_same nx ndz hk4))) hA
end
end K11

set_option maxRecDepth 100000
set_option maxHeartbeats 4000000
namespace K11
open PySem PySem.Spec PyProof.Rows L2 R8
theorem P4.ext' {p q : P4} (h1 : p.f = q.f) (h2 : p.m = q.m) (h3 : p.k = q.k) (h4 : p.i = q.i) : p = q := by cases p; cases q; simp_all
def mixP (p q : P4) (r : Int) : P4 := ⟨if (0 : Int) = r then p.f else q.f, if (1 : Int) = r then p.m else q.m, if (2 : Int) = r then p.k else q.k, if (3 : Int) = r then p.i else q.i⟩
theorem mix_at (p q : P4) (r : Int) {n : Nat} (h : n < 4) : (mixP p q r).vs[n]? = if (n : Int) = r then p.vs[n]? else q.vs[n]? := by
  match n, h with
  | 0, _ => show some (V.bl _) = _; by_cases e : (0 : Int) = r <;> simp [mixP, P4.vs, e]
  | 1, _ => show some (V.int _) = _; by_cases e : (1 : Int) = r <;> simp [mixP, P4.vs, e]
  | 2, _ => show some (V.int _) = _; by_cases e : (2 : Int) = r <;> simp [mixP, P4.vs, e]
  | 3, _ => show some (V.int _) = _; by_cases e : (3 : Int) = r <;> simp [mixP, P4.vs, e]
  | n + 4, h => omega
theorem vs_at (p : P4) {n : Nat} (h : n < 4) : ∃ v, p.vs[n]? = some v := ⟨_, List.getElem?_eq_getElem (by show n < 4; exact h)⟩
section
variable {P : Program} {w : World} {K : PySem.W.Frag} {mg : Str → Option Value} {base : Heap} {t1 t2 t3 t4 t5 t6 u1 u2 u3 : Tok}
/-! ### _law_parts -/
def spParts : Sp := fun vs H Q _ => ∃ (c : Int) (b : Addr), vs = [.int c, .ref b] ∧ (H b = some (.tup []) ∨ ∃ p : P4, H b = some (.tup p.vs)) ∧ ∀ H' t p, Same H H' → H' t = some (.tup (P4.vs p)) → Q (.ref t) H'
abbrev nPa : List Str := ["_law_cell_here", "_law_before", "_law_row_here", "_law_drawn", "_law_k"]
theorem scParts : FnScope nPa ["_law_cell_here", "_law_before"] (defScope sParts) := ⟨rfl, rfl, rfl, by decide +kernel, rfl, by decide +kernel, by decide +kernel⟩
theorem ok_parts {f f_row : Addr} {fd fd_row : FuncData} (B : Blt mg) (F : Fun K "_law_parts" "_law_parts" sParts f fd)
    (F_row : Fun K "_law_row" "_law_row" sRow f_row fd_row) (b_row : Binds K fd_row ["_law_cell_here", "_law_limits"] []) (g_row : mg "_law_row" = some (.ref f_row)) :
    FnOk P w K mg base CX0 2 f fd ["_law_cell_here", "_law_before"] spParts := by
  have G_row : FnOk P w K mg base CX0 1 f_row fd_row ["_law_cell_here", "_law_limits"] (spRow K) := ok_row B F_row
  refine F.ok scParts (fun vs H Q E h => ?_) (fun cdv A0 outer s H vs Q E hr h => ?_)
  · obtain ⟨c, b, rfl, _⟩ := h; rfl
  · obtain ⟨c, b, rfl, hb, q⟩ := h
    refine ⟨_, (pss_cons (ps_set (i := 2) scParts.nd rfl (.inr rfl) (pe_call G_row hr (by rfl) g_row F_row.kp b_row .nil pass0 (pa_cons (pv 0) (pa_cons (pe_lst (pa_cons pe_int (pa_cons pe_int (pa_cons pe_int (pa_cons pe_int (pa_cons pe_int pa_nil)))))) pa_nil))))
      (pss_cons (ps_set (i := 3) scParts.nd rfl (.inr rfl) (pe_tup (pa_cons (pe_cmpR op_eq (pe_ix ix_list (pv 2) pe_int (fun _ _ => rfl)) pe_int (nomark _)) (pa_cons (pe_ix ix_list (pv 2) pe_int (fun _ _ => rfl)) (pa_cons (pe_ix ix_list (pv 2) pe_int (fun _ _ => rfl)) (pa_cons (pe_ix ix_list (pv 2) pe_int (fun _ _ => rfl)) pa_nil))))))
      (pss_cons (ps_if (PW.pt (pw_or (pt_cmpR (op_eqD hr.units) (pv 1) (pe_tup pa_nil) (nomark _)) (pw_or1 (pt_cmpR op_gt (pe_ix ix_list (pv 2) pe_int (fun _ _ => rfl)) pe_int (nomark _)))))
      (pss_one (ps_ret (pv 3)))
      pss_nil)
      (pss_one (ps_ret (pe_callTy call_tuple_of (by rfl) B.tuple (by decide +kernel) (pa_cons (pe_lc (own := [("_law_k", 4)]) (g := gName 4) (tt := tYes) rfl scParts.nd (pi_range1 (by rfl) B.range (pa_cons pe_int pa_nil)) (blkOk_by (N := nPa) (sc := defScope sParts) (by decide +kernel)) (fun _ _ _ _ _ => (pg_name (i := 4) scParts.nd rfl (.inl rfl))) (fun _ _ _ _ _ => pts_nil) (fun _ _ _ _ _ => (pe_ifExp (pt_cmpR op_eq (pv 4) (pe_ix (show IxR _ (rIxL K) from ix_list) (pv 2) pe_int (fun _ _ => rfl)) (nomark _)) (pe_ix (show IxR _ (rIxT K) from ix_tup) (pv 3) (pv 4) (fun _ _ => rfl)) (pe_ix (show IxR _ (rIxT K) from ix_tup) (pv 1) (pv 4) (fun _ _ => rfl))))) pa_nil))))))), ?_⟩
    refine ⟨.int c, rfl, by show 5 ≤ sizeLine; decide, fun l0 n0 => ⟨c, l0, [7, 2, 5, 5, 12], rfl, SqL.of upd_same, by decide, by decide, fun H1 R rs s1 nR hR hrow => ?_⟩⟩
    have s01 := (same_new n0 (o := .lst (([7, 2, 5, 5, 12] : List Int).map V.int))).trans s1
    obtain ⟨g0, a0, b0, d0⟩ := row_at hrow (i := 0) (l := 7) rfl
    obtain ⟨g1, a1, b1, d1⟩ := row_at hrow (i := 1) (l := 2) rfl
    obtain ⟨g2, a2, b2, d2⟩ := row_at hrow (i := 2) (l := 5) rfl
    obtain ⟨g3, a3, b3, d3⟩ := row_at hrow (i := 3) (l := 5) rfl
    obtain ⟨g4, a4, b4, dd4⟩ := row_at hrow (i := 4) (l := 12) rfl
    have hR0 : SqL K H1 R (rs.map V.int) := SqL.of hR
    refine ⟨.ref R, rfl, R, _, 1, .int g1, rfl, rfl, hR0, atI_nat (j := 1) (i_at a1), rfl, .ref R, rfl, R, _, 2, .int g2, rfl, rfl, hR0, atI_nat (j := 2) (i_at a2), .ref R, rfl, R, _, 3, .int g3, rfl, rfl, hR0, atI_nat (j := 3) (i_at a3), .ref R, rfl, R, _, 4, .int g4, rfl, rfl, hR0, atI_nat (j := 4) (i_at a4), by show 4 ≤ sizeLine; decide, fun t nt => ?_⟩
    rw [eqI]
    obtain ⟨p0, hp0⟩ : ∃ p0 : P4, p0 = ⟨decide (g1 = 1), g2, g3, g4⟩ := ⟨_, rfl⟩
    have ev : ([V.bl (decide (g1 = 1)), .int g2, .int g3, .int g4] : List V) = p0.vs := by rw [hp0]; rfl
    rw [ev]
    have s2 := same_new nt (o := .tup p0.vs)
    have ht : (upd H1 t (.tup p0.vs)) t = some (.tup p0.vs) := upd_same
    generalize upd H1 t (.tup p0.vs) = H2 at s2 ht ⊢
    have s02 := s01.trans s2
    have hR2 : SqL K H2 R (rs.map V.int) := SqL.of (s2 _ _ hR)
    rcases hb with hb | ⟨pb, hb⟩
    · refine ⟨.ref b, rfl, by decide, fun e ne => ⟨.tuple [], .tuple [], .tup (SqT.of ((same_new ne) _ _ (s02 _ _ hb))) .nil, .tup (SqT.of upd_same) .nil, rfl, rfl, ?_⟩⟩
      rw [show PyData.eqv (.tuple []) (.tuple []) = true by simp [PyData.eqv, PyData.eqvAll]]
      exact ⟨_, rfl, iteT (iteT ⟨.ref t, rfl, q _ t p0 (s02.trans (same_new ne)) ((same_new ne) _ _ ht)⟩)⟩
    · refine ⟨.ref b, rfl, by decide, fun e ne => ⟨d4 pb, .tuple [], dp4 ((same_new ne) _ _ (s02 _ _ hb)), .tup (SqT.of upd_same) .nil, shaped4 pb, rfl, ?_⟩⟩
      rw [show PyData.eqv (d4 pb) (.tuple []) = false by simp [d4, PyData.eqv, PyData.eqvAll]]
      have s3 := same_new ne (o := .tup [])
      generalize upd H2 e (.tup []) = H3 at s3 ⊢
      have s03 := s02.trans s3
      have hb3 := s03 _ _ hb
      have ht3 := s3 _ _ ht
      have hR3 : H3 R = some (.lst (rs.map V.int)) := s3 _ _ (s2 _ _ hR)
      refine ⟨_, rfl, iteF ⟨.ref R, rfl, R, _, 0, .int g0, rfl, rfl, SqL.of hR3, atI_nat (j := 0) (i_at a0), g0, 4, rfl, rfl, _, rfl, ?_⟩⟩
      refine ite2 (fun _ => ⟨.ref t, rfl, q _ t p0 s03 ht3⟩) (fun _ => ?_)
      refine ⟨4, rfl, by decide, by decide, fun D hD => ?_⟩
      refine lc_range (lo := 0) (n := 4) (fun n H' => H' D = some (.lst ((mixP p0 pb g0).vs.take n)) ∧ Same H3 H') ⟨upd_same, same_new hD⟩ ?_ ?_
      · rintro n H' hn ⟨hD', sm⟩
        have e0 : (0 : Int) + (n : Int) = (n : Int) := by omega
        rw [e0]
        have hm := mix_at p0 pb g0 hn
        have hl : ((mixP p0 pb g0).vs.take n).length < sizeLine := small1000 (by rw [List.length_take]; omega)
        refine ⟨rfl, .int (n : Int), rfl, .ref R, rfl, R, _, 0, .int g0, rfl, rfl, SqL.of (sm _ _ hR3), atI_nat (j := 0) (i_at a0), rfl, _, rfl, ?_⟩
        rw [eqI]
        refine ite2 (fun hk => ?_) (fun hk => ?_)
        · have hk' : (n : Int) = g0 := of_decide_eq_true hk
          rw [if_pos hk'] at hm
          obtain ⟨v, hv⟩ := vs_at p0 hn
          rw [hv] at hm
          refine ⟨.ref t, rfl, .int (n : Int), rfl, t, _, (n : Int), v, rfl, rfl, SqT.of (sm _ _ ht3), atI_nat hv, _, hD', hl, ?_, same_at sm hD⟩
          rw [upd_same, List.take_add_one, hm]; rfl
        · have hk' : ¬ (n : Int) = g0 := fun h => hk (decide_eq_true h)
          rw [if_neg hk'] at hm
          obtain ⟨v, hv⟩ := vs_at pb hn
          rw [hv] at hm
          refine ⟨.ref b, rfl, .int (n : Int), rfl, b, _, (n : Int), v, rfl, rfl, SqT.of (sm _ _ hb3), atI_nat hv, _, hD', hl, ?_, same_at sm hD⟩
          rw [upd_same, List.take_add_one, hm]; rfl
      · rintro H' ⟨hD', sm⟩
        rw [List.take_of_length_le (by exact Nat.le_refl 4)] at hD'
        refine ⟨D, _, rfl, .inl ⟨SqL.of hD', fun t2 nt2 => q _ t2 (mixP p0 pb g0) (s03.trans (sm.trans (same_new nt2))) upd_same⟩⟩
/-! ### _law_order -/
def spOrder (K : PySem.W.Frag) : Sp := fun vs H Q _ => ∃ (a b : Addr) (p q : P4), vs = [.ref a, .ref b] ∧ SqT K H a p.vs ∧ SqT K H b q.vs ∧ Q (.int (p.ord q)) H
abbrev nOr : List Str := ["_law_one", "_law_two", "_law_k"]
theorem scOrder : FnScope nOr ["_law_one", "_law_two"] (defScope sOrder) := ⟨rfl, rfl, rfl, by decide +kernel, rfl, by decide +kernel, by decide +kernel⟩
def pn4 (p : P4) (n : Nat) : Int := match n with | 0 => bi p.f | 1 => p.m | 2 => p.k | _ => p.i
theorem conv_at (p : P4) {n : Nat} (h : n < 4) : ∃ v, p.vs[n]? = some v ∧ ((∃ i, v = V.int i ∧ pn4 p n = i) ∨ (∃ c, v = V.bl c ∧ pn4 p n = bi c)) := by
  match n, h with
  | 0, _ => exact ⟨_, rfl, .inr ⟨_, rfl, rfl⟩⟩
  | 1, _ => exact ⟨_, rfl, .inl ⟨_, rfl, rfl⟩⟩
  | 2, _ => exact ⟨_, rfl, .inl ⟨_, rfl, rfl⟩⟩
  | 3, _ => exact ⟨_, rfl, .inl ⟨_, rfl, rfl⟩⟩
  | n + 4, h => omega
theorem ord_of (p q : P4) {n : Nat} (h : n < 4) (hb : ∀ j, j < n → pn4 p j = pn4 q j) (hn : pn4 p n ≠ pn4 q n) : p.ord q = pn4 p n - pn4 q n := by
  unfold P4.ord
  match n, h with
  | 0, _ => exact if_neg hn
  | 1, _ =>
    have h0 : bi p.f = bi q.f := hb 0 (by decide)
    have h1 : ¬ p.m = q.m := hn
    rw [if_pos h0, if_neg h1]; rfl
  | 2, _ =>
    have h0 : bi p.f = bi q.f := hb 0 (by decide)
    have h1 : p.m = q.m := hb 1 (by decide)
    have h2 : ¬ p.k = q.k := hn
    rw [if_pos h0, if_pos h1, if_neg h2]; rfl
  | 3, _ =>
    have h0 : bi p.f = bi q.f := hb 0 (by decide)
    have h1 : p.m = q.m := hb 1 (by decide)
    have h2 : p.k = q.k := hb 2 (by decide)
    rw [if_pos h0, if_pos h1, if_pos h2]; rfl
  | n + 4, h => omega
theorem ord_eq (p q : P4) (hb : ∀ j, j < 4 → pn4 p j = pn4 q j) : p.ord q = 0 := by
  unfold P4.ord
  have h0 : bi p.f = bi q.f := hb 0 (by decide)
  have h1 : p.m = q.m := hb 1 (by decide)
  have h2 : p.k = q.k := hb 2 (by decide)
  rw [if_pos h0, if_pos h1, if_pos h2]
  have : p.i = q.i := hb 3 (by decide)
  omega
set_option maxHeartbeats 8000000 in
theorem ok_order {f : Addr} {fd : FuncData} (B : Blt mg) (F : Fun K "_law_order" "_law_order" sOrder f fd) : FnOk P w K mg base CX0 1 f fd ["_law_one", "_law_two"] (spOrder K) := by
  refine F.ok scOrder (fun vs H Q E h => ?_) (fun cdv A0 outer s H vs Q E hr h => ?_)
  · obtain ⟨a, b, p, q, rfl, _⟩ := h; rfl
  · obtain ⟨a, b, p, q, rfl, ha, hb, g⟩ := h
    refine ⟨_, (pss_cons (ps_for (PassesOwn.never) rfl (pi_range1 (by rfl) B.range (pa_cons pe_int pa_nil)) (pg_name (i := 2) scOrder.nd rfl (.inl rfl))
      (pss_one (ps_if (pt_cmpR op_ne (pe_callTy call_int1 (by rfl) B.int (by decide +kernel) (pa_cons (pe_ix ix_tup (pv 0) (pv 2) (fun _ _ => rfl)) pa_nil)) (pe_callTy call_int1 (by rfl) B.int (by decide +kernel) (pa_cons (pe_ix ix_tup (pv 1) (pv 2) (fun _ _ => rfl)) pa_nil)) (nomark _))
       (pss_one (ps_ret (pe_op op_sub (pe_callTy call_int1 (by rfl) B.int (by decide +kernel) (pa_cons (pe_ix ix_tup (pv 0) (pv 2) (fun _ _ => rfl)) pa_nil)) (pe_callTy call_int1 (by rfl) B.int (by decide +kernel) (pa_cons (pe_ix ix_tup (pv 1) (pv 2) (fun _ _ => rfl)) pa_nil)))))
       pss_nil)))
      (pss_one (ps_ret pe_int))), ?_⟩
    refine ⟨4, rfl, by decide, by decide, ?_⟩
    refine for_range (lo := 0) (n := 4) (fun n σ H' => ∃ y2, σ = [some (.ref a), some (.ref b), y2] ∧ H' = H ∧ ∀ j, j < n → pn4 p j = pn4 q j) ⟨none, rfl, rfl, fun j h => absurd h (Nat.not_lt_zero j)⟩ ?_ ?_
    · rintro n σ H' hn ⟨y2, rfl, rfl, hall⟩
      have e0 : (0 : Int) + (n : Int) = (n : Int) := by omega
      rw [e0]
      obtain ⟨v1, h1, c1⟩ := conv_at p hn
      obtain ⟨v2, h2, c2⟩ := conv_at q hn
      have at1 : atI p.vs (n : Int) = some v1 := atI_nat h1
      have at2 : atI q.vs (n : Int) = some v2 := atI_nat h2
      have fin : (pn4 p n ≠ pn4 q n → Q (.int (pn4 p n - pn4 q n)) H') := fun h => by rw [← ord_of p q hn hall h]; exact g
      have nxt : pn4 p n = pn4 q n → ∀ j, j < n + 1 → pn4 p j = pn4 q j := fun h j hj => by
        rcases Nat.lt_or_eq_of_le (Nat.le_of_lt_succ hj) with h1 | h1
        · exact hall j h1
        · rw [h1]; exact h
      rcases c1 with ⟨i, rfl, e1⟩ | ⟨c, rfl, e1⟩ <;> rcases c2 with ⟨i2, rfl, e2⟩ | ⟨c2, rfl, e2⟩
      · rw [e1, e2] at fin nxt
        refine ⟨.ref a, rfl, .int (n : Int), rfl, a, _, (n : Int), _, rfl, rfl, ha, at1, .inl ⟨i, rfl, .ref b, rfl, .int (n : Int), rfl, b, _, (n : Int), _, rfl, rfl, hb, at2, .inl ⟨i2, rfl, rfl, _, rfl, ?_⟩⟩⟩
        refine ite2 (fun hk => ?_) (fun hk => ?_)
        · have hne : i ≠ i2 := fun h => by
            have h2 : (!decide (V.int (i) = V.int (i2))) = true := hk
            rw [h, decide_eq_true rfl] at h2; cases h2
          refine ⟨.ref a, rfl, .int (n : Int), rfl, a, _, (n : Int), _, rfl, rfl, ha, at1, .inl ⟨i, rfl, .ref b, rfl, .int (n : Int), rfl, b, _, (n : Int), _, rfl, rfl, hb, at2, .inl ⟨i2, rfl, _, _, rfl, rfl, fin hne⟩⟩⟩
        · have he : i = i2 := Decidable.byContradiction fun h => hk (by
            show (!decide (V.int (i) = V.int (i2))) = true
            rw [decide_eq_false (fun h2 => h (V.int.inj h2))]; rfl)
          exact ⟨_, rfl, rfl, nxt he⟩
      · rw [e1, e2] at fin nxt
        refine ⟨.ref a, rfl, .int (n : Int), rfl, a, _, (n : Int), _, rfl, rfl, ha, at1, .inl ⟨i, rfl, .ref b, rfl, .int (n : Int), rfl, b, _, (n : Int), _, rfl, rfl, hb, at2, .inr ⟨c2, rfl, rfl, _, rfl, ?_⟩⟩⟩
        refine ite2 (fun hk => ?_) (fun hk => ?_)
        · have hne : i ≠ bi c2 := fun h => by
            have h2 : (!decide (V.int (i) = V.int (bi c2))) = true := hk
            rw [h, decide_eq_true rfl] at h2; cases h2
          refine ⟨.ref a, rfl, .int (n : Int), rfl, a, _, (n : Int), _, rfl, rfl, ha, at1, .inl ⟨i, rfl, .ref b, rfl, .int (n : Int), rfl, b, _, (n : Int), _, rfl, rfl, hb, at2, .inr ⟨c2, rfl, _, _, rfl, rfl, fin hne⟩⟩⟩
        · have he : i = bi c2 := Decidable.byContradiction fun h => hk (by
            show (!decide (V.int (i) = V.int (bi c2))) = true
            rw [decide_eq_false (fun h2 => h (V.int.inj h2))]; rfl)
          exact ⟨_, rfl, rfl, nxt he⟩
      · rw [e1, e2] at fin nxt
        refine ⟨.ref a, rfl, .int (n : Int), rfl, a, _, (n : Int), _, rfl, rfl, ha, at1, .inr ⟨c, rfl, .ref b, rfl, .int (n : Int), rfl, b, _, (n : Int), _, rfl, rfl, hb, at2, .inl ⟨i2, rfl, rfl, _, rfl, ?_⟩⟩⟩
        refine ite2 (fun hk => ?_) (fun hk => ?_)
        · have hne : bi c ≠ i2 := fun h => by
            have h2 : (!decide (V.int (bi c) = V.int (i2))) = true := hk
            rw [h, decide_eq_true rfl] at h2; cases h2
          refine ⟨.ref a, rfl, .int (n : Int), rfl, a, _, (n : Int), _, rfl, rfl, ha, at1, .inr ⟨c, rfl, .ref b, rfl, .int (n : Int), rfl, b, _, (n : Int), _, rfl, rfl, hb, at2, .inl ⟨i2, rfl, _, _, rfl, rfl, fin hne⟩⟩⟩
        · have he : bi c = i2 := Decidable.byContradiction fun h => hk (by
            show (!decide (V.int (bi c) = V.int (i2))) = true
            rw [decide_eq_false (fun h2 => h (V.int.inj h2))]; rfl)
          exact ⟨_, rfl, rfl, nxt he⟩
      · rw [e1, e2] at fin nxt
        refine ⟨.ref a, rfl, .int (n : Int), rfl, a, _, (n : Int), _, rfl, rfl, ha, at1, .inr ⟨c, rfl, .ref b, rfl, .int (n : Int), rfl, b, _, (n : Int), _, rfl, rfl, hb, at2, .inr ⟨c2, rfl, rfl, _, rfl, ?_⟩⟩⟩
        refine ite2 (fun hk => ?_) (fun hk => ?_)
        · have hne : bi c ≠ bi c2 := fun h => by
            have h2 : (!decide (V.int (bi c) = V.int (bi c2))) = true := hk
            rw [h, decide_eq_true rfl] at h2; cases h2
          refine ⟨.ref a, rfl, .int (n : Int), rfl, a, _, (n : Int), _, rfl, rfl, ha, at1, .inr ⟨c, rfl, .ref b, rfl, .int (n : Int), rfl, b, _, (n : Int), _, rfl, rfl, hb, at2, .inr ⟨c2, rfl, _, _, rfl, rfl, fin hne⟩⟩⟩
        · have he : bi c = bi c2 := Decidable.byContradiction fun h => hk (by
            show (!decide (V.int (bi c) = V.int (bi c2))) = true
            rw [decide_eq_false (fun h2 => h (V.int.inj h2))]; rfl)
          exact ⟨_, rfl, rfl, nxt he⟩
    · rintro σ H' ⟨y2, rfl, rfl, hall⟩
      rw [ord_eq p q hall] at g
      exact g
end
end K11

set_option maxRecDepth 100000
set_option maxHeartbeats 4000000
namespace K11
open PySem PySem.Spec PyProof.Rows L2 R8
def mkN (y : Tst) : Int := if asks y = true then 1 else 0
def knN (y : Tst) : Int := if names y = true then 1 else 0
def cntM (ts : List Tst) : Int := ((ts.filter asks).length : Nat)
def cntK (ts : List Tst) : Int := ((ts.filter names).length : Nat)
theorem cntM_snoc (ts : List Tst) (y : Tst) : cntM (ts ++ [y]) = cntM ts + mkN y := by
  unfold cntM mkN
  rw [List.filter_append, List.length_append]
  cases h : asks y <;> simp [h]
theorem cntK_snoc (ts : List Tst) (y : Tst) : cntK (ts ++ [y]) = cntK ts + knN y := by
  unfold cntK knN
  rw [List.filter_append, List.length_append]
  cases h : names y <;> simp [h]
/-- n tests as they are written, with their marks and kinds counted -/
def WN (n : Nat) (l : List Nat) (M N : Int) : Prop := match n with
  | 0 => l = [] ∧ M = 0 ∧ N = 0
  | m + 1 => ∃ x rs, l = textL x rs ∧ GoodT x ∧ (∀ r ∈ rs, r.1 ≤ 2 ∧ GoodT r.2) ∧ rs.length = m ∧ M = cntM (x :: rs.map (·.2)) ∧ N = cntK (x :: rs.map (·.2))
theorem WN.len {n : Nat} {l : List Nat} {M N : Int} (h : WN n l M N) (hn : n ≤ 4) : l.length ≤ 77 := by
  cases n with
  | zero => have : l = [] := h.1; rw [this]; decide
  | succ m =>
    obtain ⟨x, rs, rfl, gx, gr, hl, _⟩ := h
    have := textL_len gx rs gr
    omega
theorem WN.nums {n : Nat} {l : List Nat} {M N : Int} (h : WN n l M N) : 0 ≤ M ∧ M ≤ n ∧ 0 ≤ N ∧ N ≤ n := by
  cases n with
  | zero => obtain ⟨_, rfl, rfl⟩ := h; decide
  | succ m =>
    obtain ⟨x, rs, rfl, gx, gr, hl, rfl, rfl⟩ := h
    have h1 : ((x :: rs.map (·.2)).filter asks).length ≤ (x :: rs.map (·.2)).length := List.length_filter_le _ _
    have h2 : ((x :: rs.map (·.2)).filter names).length ≤ (x :: rs.map (·.2)).length := List.length_filter_le _ _
    rw [List.length_cons, List.length_map, hl] at h1 h2
    unfold cntM cntK
    omega
theorem WN.one {y : Tst} (gy : GoodT y) : WN 1 (wordL y) (0 + mkN y) (0 + knN y) := by
  refine ⟨y, [], by simp [textL], gy, fun r h => absurd h List.not_mem_nil, rfl, ?_, ?_⟩
  · exact (cntM_snoc [] y).symm
  · exact (cntK_snoc [] y).symm
theorem WN.more {m : Nat} {l : List Nat} {M N : Int} (h : WN (m + 1) l M N) {y : Tst} (gy : GoodT y) {k : Nat} (hk : k ≤ 2) : WN (m + 2) (l ++ sepL k ++ wordL y) (M + mkN y) (N + knN y) := by
  obtain ⟨x, rs, rfl, gx, gr, hl, rfl, rfl⟩ := h
  have e : x :: (rs ++ [(k, y)]).map (·.2) = (x :: rs.map (·.2)) ++ [y] := by rw [List.map_append]; rfl
  refine ⟨x, rs ++ [(k, y)], (textL_snoc x rs (k, y)).symm, gx, fun r hr => ?_, by rw [List.length_append, hl]; rfl, by rw [e, cntM_snoc], by rw [e, cntK_snoc]⟩
  rcases List.mem_append.mp hr with h | h
  · exact gr r h
  · rw [List.mem_singleton.mp h]; exact ⟨hk, gy⟩
abbrev kindsL : List V := [.str (Str.ofString "par"), .str (Str.ofString "em"), .str (Str.ofString "*"), .str (Str.ofString "head")]
abbrev marksL : List V := [.str (Str.ofString ".a"), .str (Str.ofString ".b")]
abbrev namesL : List V := [.str (Str.ofString "face"), .str (Str.ofString "size"), .str (Str.ofString "wide"), .str (Str.ofString "drop"), .str (Str.ofString "indent"), .str (Str.ofString "before")]
abbrev digsL : List V := [.str (Str.ofString "1"), .str (Str.ofString "2"), .str (Str.ofString "1")]
abbrev limL : List Int := [3, 4, 3, 3, 4, 3, 3, 4, 3, 3, 6, 3]
theorem nm_of {z : Str} (h : (1 ≤ (tl z).length ∧ (tl z).length ≤ 8) ∧ (tl z).all isL = true) : Name z := ⟨h.1.1, h.1.2, by have := h.2; rw [List.all_eq_true] at this; exact this⟩
theorem limL_at : ∀ k, k < 3 → limL[3 * k + 1]? = some 4 ∧ limL[3 * k + 2]? = some 3 ∧ (0 < k → limL[3 * k]? = some 3)
  | 0, _ => ⟨rfl, rfl, fun h => absurd h (Nat.lt_irrefl 0)⟩
  | 1, _ => ⟨rfl, rfl, fun _ => rfl⟩
  | 2, _ => ⟨rfl, rfl, fun _ => rfl⟩
  | k + 3, h => by omega
theorem sep_at {g : Int} (h0 : 0 ≤ g) (h1 : g < 3) : ∃ l : Nat, l ≤ 2 ∧ atI [V.str (Str.ofString " "), .str (Str.ofString " > "), .str (Str.ofString " + ")] g = some (sv l) := by
  obtain ⟨n, rfl⟩ : ∃ n : Nat, g = (n : Int) := ⟨g.toNat, by omega⟩
  match n, h1 with
  | 0, _ => exact ⟨0, by decide, rfl⟩
  | 1, _ => exact ⟨1, by decide, rfl⟩
  | 2, _ => exact ⟨2, by decide, rfl⟩
  | n + 3, h => omega
theorem kind_at {g : Int} (h0 : 0 ≤ g) (h1 : g < 4) : ∃ z : Str, atI kindsL g = some (.str z) ∧ (z = starS ∨ Name z) := by
  obtain ⟨n, rfl⟩ : ∃ n : Nat, g = (n : Int) := ⟨g.toNat, by omega⟩
  match n, h1 with
  | 0, _ => exact ⟨_, rfl, .inr (nm_of (by decide +kernel))⟩
  | 1, _ => exact ⟨_, rfl, .inr (nm_of (by decide +kernel))⟩
  | 2, _ => exact ⟨_, rfl, .inl rfl⟩
  | 3, _ => exact ⟨_, rfl, .inr (nm_of (by decide +kernel))⟩
  | n + 4, h => omega
theorem mark_at {g : Int} (h0 : 0 ≤ g) (h1 : g < 2) : ∃ z m : Str, atI marksL g = some (.str z) ∧ tl z = 46 :: tl m ∧ Name m := by
  obtain ⟨n, rfl⟩ : ∃ n : Nat, g = (n : Int) := ⟨g.toNat, by omega⟩
  match n, h1 with
  | 0, _ => exact ⟨_, Str.ofString "a", rfl, by decide +kernel, nm_of (by decide +kernel)⟩
  | 1, _ => exact ⟨_, Str.ofString "b", rfl, by decide +kernel, nm_of (by decide +kernel)⟩
  | n + 2, h => omega
theorem name_at {g : Int} (h0 : 0 ≤ g) (h1 : g < 6) : ∃ z : Str, atI namesL g = some (.str z) ∧ z ∈ nms := by
  obtain ⟨n, rfl⟩ : ∃ n : Nat, g = (n : Int) := ⟨g.toNat, by omega⟩
  match n, h1 with
  | 0, _ => exact ⟨_, rfl, by decide +kernel⟩
  | 1, _ => exact ⟨_, rfl, by decide +kernel⟩
  | 2, _ => exact ⟨_, rfl, by decide +kernel⟩
  | 3, _ => exact ⟨_, rfl, by decide +kernel⟩
  | 4, _ => exact ⟨_, rfl, by decide +kernel⟩
  | 5, _ => exact ⟨_, rfl, by decide +kernel⟩
  | n + 6, h => omega
theorem dig_at {g : Int} (h0 : 0 ≤ g) (h1 : g < 3) : ∃ d : Nat, atI digsL g = some (.str (digS d)) ∧ (d = 1 ∨ d = 2) := by
  obtain ⟨n, rfl⟩ : ∃ n : Nat, g = (n : Int) := ⟨g.toNat, by omega⟩
  match n, h1 with
  | 0, _ => exact ⟨1, rfl, .inl rfl⟩
  | 1, _ => exact ⟨2, rfl, .inr rfl⟩
  | 2, _ => exact ⟨1, rfl, .inl rfl⟩
  | n + 3, h => omega
theorem tl_bid (nm : Str) (d : Nat) (f : Bool) : tl (bidS nm d f) = tl nm ++ (32 :: tl (digS d)) ++ (if f = true then 32 :: tl firmS else []) := by
  have e : tl (bidS nm d f) = TL.joinL [32] ((bid nm d f).map tl) := by
    unfold bidS
    have h2 : TL.tl (Txt.join blankS (bid nm d f)) = TL.joinL (TL.tl blankS) ((bid nm d f).map TL.tl) := by rw [TL.join_eq, TL.tl_join]
    rw [show TL.tl blankS = [32] from tl_blank] at h2
    exact h2
  rw [e]
  cases f with
  | true =>
    show TL.joinL [32] [tl nm, tl (digS d), tl firmS] = _
    simp [TL.joinL]
  | false =>
    show TL.joinL [32] [tl nm, tl (digS d)] = _
    simp [TL.joinL]
theorem tl_blk : tl (Str.ofString " ") = [32] := by decide +kernel
theorem tl_colo : tl (Str.ofString ": ") = [58, 32] := by decide +kernel
theorem tl_sfirm : tl (Str.ofString " firm") = 32 :: tl firmS := by decide +kernel
theorem nm_len {nm : Str} (h : nm ∈ nms) : (tl nm).length ≤ 6 := by rw [tl_len]; exact (nms_free nm h).2
theorem dig_len {d : Nat} (h : d = 1 ∨ d = 2) : (tl (digS d)).length = 1 := by rcases h with rfl | rfl <;> decide +kernel
section
variable {P : Program} {w : World} {K : PySem.W.Frag} {mg : Str → Option Value} {base : Heap} {t1 t2 t3 t4 t5 t6 u1 u2 u3 : Tok}
/-! ### _law_line -/
def spLine : Sp := fun vs H Q _ => ∃ (c : Int) (k : Nat), vs = [.int c, .int (k : Int)] ∧ ∀ H' d t z r, Same H H' → H d = none → H' d = some (.lst [.str z, .ref t]) → H' t = some (.tup (rkOf r k).vs) → Reads z r → r.1.length ≤ 4 → Q (.ref d) H'
abbrev nLi : List Str := ["_law_cell_here", "_law_index", "_law_row_here", "_law_text", "_law_marks", "_law_kinds", "_law_k", "_law_kind", "_law_name"]
theorem scLine : FnScope nLi ["_law_cell_here", "_law_index"] (defScope sLine) := ⟨rfl, rfl, rfl, by decide +kernel, rfl, by decide +kernel, by decide +kernel⟩
set_option maxHeartbeats 8000000 in
theorem ok_line {f f_row : Addr} {fd fd_row : FuncData} (B : Blt mg) (F : Fun K "_law_line" "_law_line" sLine f fd)
    (F_row : Fun K "_law_row" "_law_row" sRow f_row fd_row) (b_row : Binds K fd_row ["_law_cell_here", "_law_limits"] []) (g_row : mg "_law_row" = some (.ref f_row)) :
    FnOk P w K mg base CX0 2 f fd ["_law_cell_here", "_law_index"] spLine := by
  have G_row : FnOk P w K mg base CX0 1 f_row fd_row ["_law_cell_here", "_law_limits"] (spRow K) := ok_row B F_row
  refine F.ok scLine (fun vs H Q E h => ?_) (fun cdv A0 outer s H vs Q E hr h => ?_)
  · obtain ⟨c, k, rfl, _⟩ := h; rfl
  · obtain ⟨c, k, rfl, q⟩ := h
    refine ⟨_, (pss_cons (ps_set (i := 2) scLine.nd rfl (.inl rfl) (pe_call G_row hr (by rfl) g_row F_row.kp b_row .nil pass0 (pa_cons (pv 0) (pa_cons (pe_lst (pa_cons pe_int (pa_cons pe_int (pa_cons pe_int (pa_cons pe_int (pa_cons pe_int (pa_cons pe_int (pa_cons pe_int (pa_cons pe_int (pa_cons pe_int (pa_cons pe_int (pa_cons pe_int (pa_cons pe_int pa_nil))))))))))))) pa_nil))))
      (pss_cons (ps_set (i := 3) scLine.nd rfl (.inl rfl) pe_str)
      (pss_cons (ps_set (i := 4) scLine.nd rfl (.inl rfl) pe_int)
      (pss_cons (ps_set (i := 5) scLine.nd rfl (.inl rfl) pe_int)
      (pss_cons (ps_for (PassesOwn.never) rfl (pi_range1 (by rfl) B.range (pa_cons (pe_op op_add (pe_ix ix_list (pv 2) pe_int (fun _ _ => rfl)) pe_int) pa_nil)) (pg_name (i := 6) scLine.nd rfl (.inl rfl))
      (Evl.pss_cut (ps_if (pt_cmpR op_gt (pv 6) pe_int (nomark _))
       (pss_one (ps_set (i := 3) scLine.nd rfl (.inl rfl) (pe_op op_add_str (pv 3) (pe_ix ix_list (pe_lst (pa_cons pe_str (pa_cons pe_str (pa_cons pe_str pa_nil)))) (pe_ix ix_list (pv 2) (pe_op op_mul pe_int (pv 6)) (fun _ _ => rfl)) (fun _ _ => rfl)))))
       pss_nil)
       (pss_cons (ps_set (i := 7) scLine.nd rfl (.inl rfl) (pe_ix ix_list (pe_lst (pa_cons pe_str (pa_cons pe_str (pa_cons pe_str (pa_cons pe_str pa_nil))))) (pe_ix ix_list (pv 2) (pe_op op_add (pe_op op_mul pe_int (pv 6)) pe_int) (fun _ _ => rfl)) (fun _ _ => rfl)))
       (pss_cons (ps_set (i := 3) scLine.nd rfl (.inl rfl) (pe_op op_add_str (pv 3) (pv 7)))
       (pss_cons (ps_set (i := 5) scLine.nd rfl (.inl rfl) (pe_op op_add (pv 5) (pe_callTy call_int1 (by rfl) B.int (by decide +kernel) (pa_cons (pe_cmpR op_ne (pv 7) pe_str (nomark _)) pa_nil))))
       (pss_one (ps_if (pt_cmpR op_gt (pe_ix ix_list (pv 2) (pe_op op_add (pe_op op_mul pe_int (pv 6)) pe_int) (fun _ _ => rfl)) pe_int (nomark _))
       (pss_cons (ps_set (i := 3) scLine.nd rfl (.inl rfl) (pe_op op_add_str (pv 3) (pe_ix ix_list (pe_lst (pa_cons pe_str (pa_cons pe_str pa_nil))) (pe_op op_sub (pe_ix ix_list (pv 2) (pe_op op_add (pe_op op_mul pe_int (pv 6)) pe_int) (fun _ _ => rfl)) pe_int) (fun _ _ => rfl))))
        (pss_one (ps_set (i := 4) scLine.nd rfl (.inl rfl) (pe_op op_add (pv 4) pe_int))))
       pss_nil)))))))
      (pss_cons (ps_set (i := 8) scLine.nd rfl (.inl rfl) (pe_ix ix_list (pe_lst (pa_cons pe_str (pa_cons pe_str (pa_cons pe_str (pa_cons pe_str (pa_cons pe_str (pa_cons pe_str pa_nil))))))) (pe_ix ix_list (pv 2) pe_int (fun _ _ => rfl)) (fun _ _ => rfl)))
      (pss_cons (ps_set (i := 3) scLine.nd rfl (.inl rfl) (pe_op op_add_str (pe_op op_add_str (pe_op op_add_str (pe_op op_add_str (pv 3) pe_str) (pv 8)) pe_str) (pe_ix ix_list (pe_lst (pa_cons pe_str (pa_cons pe_str (pa_cons pe_str pa_nil)))) (pe_ix ix_list (pv 2) pe_int (fun _ _ => rfl)) (fun _ _ => rfl))))
      (pss_cons (ps_if (pt_cmpR op_eq (pe_ix ix_list (pv 2) pe_int (fun _ _ => rfl)) pe_int (nomark _))
      (pss_one (ps_ret (pe_lst (pa_cons (pe_op op_add_str (pv 3) pe_str) (pa_cons (pe_tup (pa_cons pe_bl (pa_cons (pv 4) (pa_cons (pv 5) (pa_cons (pv 1) pa_nil))))) pa_nil)))))
      pss_nil)
      (pss_one (ps_ret (pe_lst (pa_cons (pv 3) (pa_cons (pe_tup (pa_cons pe_bl (pa_cons (pv 4) (pa_cons (pv 5) (pa_cons (pv 1) pa_nil))))) pa_nil))))))))))))), ?_⟩
    refine ⟨.int c, rfl, by show 12 ≤ sizeLine; decide, fun l0 n0 => ⟨c, l0, limL, rfl, SqL.of upd_same, by decide, by decide, fun H1 R rs s1 nR hR hrow => ?_⟩⟩
    have s01 := (same_new n0 (o := .lst (limL.map V.int))).trans s1
    obtain ⟨g0, a0, b0, d0⟩ := row_at hrow (i := 0) (l := 3) rfl
    obtain ⟨g9, a9, b9, d9⟩ := row_at hrow (i := 9) (l := 3) rfl
    obtain ⟨g10, a10, b10, d10⟩ := row_at hrow (i := 10) (l := 6) rfl
    obtain ⟨g11, a11, b11, d11⟩ := row_at hrow (i := 11) (l := 3) rfl
    obtain ⟨m0, rfl⟩ : ∃ k : Nat, g0 = (k : Int) := ⟨g0.toNat, by omega⟩
    have hm0 : m0 ≤ 2 := by omega
    refine ⟨.ref R, rfl, R, _, 0, .int (m0 : Int), rfl, rfl, SqL.of hR, atI_nat (j := 0) (i_at a0), (m0 : Int), 1, rfl, rfl, (m0 : Int) + 1, rfl, by omega, by omega, ?_⟩
    rw [show ((m0 : Int) + 1).toNat = m0 + 1 by omega]
    refine for_range (lo := 0) (n := m0 + 1) (fun i σ H' => ∃ (z : Str) (M N : Int) (y6 y7 : Option V), σ = [some (.int c), some (.int (k : Int)), some (.ref R), some (.str z), some (.int M), some (.int N), y6, y7, none] ∧ Same H1 H' ∧ WN i (tl z) M N) ⟨_, _, _, none, none, rfl, Same.refl _, tl_empty, rfl, rfl⟩ ?_ ?_
    · rintro i σ H' hi ⟨z, M, N, y6, y7, rfl, sm, hz⟩
      have e0 : (0 : Int) + (i : Int) = (i : Int) := by omega
      rw [e0]
      have hzl := hz.len (by omega)
      obtain ⟨lk1, lk2, lk3⟩ := limL_at i (by omega)
      obtain ⟨r1, e1, p1, u1⟩ := row_at hrow lk1
      obtain ⟨r2, e2, p2, u2⟩ := row_at hrow lk2
      refine ⟨fun σ H2 => ∃ z2 : Str, σ = [some (.int c), some (.int (k : Int)), some (.ref R), some (.str z2), some (.int M), some (.int N), some (.int (i : Int)), y7, none] ∧ Same H1 H2 ∧ (tl z2).length ≤ 80 ∧ ∀ y, GoodT y → WN (i + 1) (tl z2 ++ wordL y) (M + mkN y) (N + knN y), ?_, ?_⟩
      · refine ⟨.int (i : Int), rfl, (i : Int), 0, rfl, rfl, _, rfl, ite2 (fun hk => ?_) (fun hk => ?_)⟩
        · have h0 : 0 < i := by have := of_decide_eq_true hk; omega
          obtain ⟨m, rfl⟩ : ∃ m, i = m + 1 := ⟨i - 1, by omega⟩
          obtain ⟨r3, e3, p3, u3⟩ := row_at hrow (lk3 h0)
          obtain ⟨l, hl2, hat⟩ := sep_at p3 u3
          refine ⟨.str z, rfl, by show 3 ≤ sizeLine; decide, fun l3 n3 => ?_⟩
          have s3 := same_new n3 (o := .lst [.str (Str.ofString " "), .str (Str.ofString " > "), .str (Str.ofString " + ")])
          have h3 : (upd H' l3 (.lst [.str (Str.ofString " "), .str (Str.ofString " > "), .str (Str.ofString " + ")])) l3 = some (.lst [.str (Str.ofString " "), .str (Str.ofString " > "), .str (Str.ofString " + ")]) := upd_same
          generalize upd H' l3 (.lst [.str (Str.ofString " "), .str (Str.ofString " > "), .str (Str.ofString " + ")]) = H3 at s3 h3 ⊢
          have hs3 : (tl (sepS l)).length ≤ 3 := by rw [tl_sep hl2]; exact sep_len hl2
          refine ⟨.ref R, rfl, .int ((m + 1 : Nat) : Int), rfl, 3, ((m + 1 : Nat) : Int), rfl, rfl, .inl ⟨by decide, by decide⟩, R, _, _, .int r3, rfl, rfl, SqL.of (s3 _ _ (sm _ _ hR)), at_of (j := 3 * (m + 1)) (by omega) (i_at e3), l3, _, r3, sv l, rfl, rfl, SqL.of h3, hat, z, sepS l, rfl, rfl, add_room hzl (by omega) (by decide), ?_⟩
          refine ⟨_, rfl, sm.trans s3, by rw [tl_add, List.length_append]; omega, fun y gy => ?_⟩
          rw [tl_add, tl_sep hl2]
          exact hz.more gy hl2
        · have h0 : i = 0 := by
            have h1 : ¬ (i : Int) > 0 := fun h => hk (decide_eq_true h)
            omega
          subst h0
          refine ⟨z, rfl, sm, by omega, fun y gy => ?_⟩
          obtain ⟨e1, rfl, rfl⟩ := hz
          rw [e1]; exact WN.one gy
      · rintro σ H2 ⟨z2, rfl, sm2, hz2, hw⟩
        obtain ⟨zk, y1, gk⟩ := kind_at p1 u1
        have hnums := hz.nums
        have hkl8 : (tl zk).length ≤ 8 := by
          rcases gk with h | h
          · rw [h, tl_star]; decide
          · exact h.2.1
        have hl1 : (tl (z2 ++ zk)).length ≤ 88 := by rw [tl_add, List.length_append]; omega
        refine ⟨by show 4 ≤ sizeLine; decide, fun l4 n4 => ?_⟩
        have s4 := same_new n4 (o := .lst kindsL)
        have h4 : (upd H2 l4 (.lst kindsL)) l4 = some (.lst kindsL) := upd_same
        generalize upd H2 l4 (.lst kindsL) = H4 at s4 h4 ⊢
        have sm4 := sm2.trans s4
        have hkb : ∀ y : Str, (if (!decide (V.str zk = V.str (Str.ofString "*"))) = true then (1 : Int) else 0) = knN (zk, y) := fun y => by
          unfold knN names starS
          by_cases h : zk = Str.ofString "*"
          · rw [decide_eq_true (show V.str zk = V.str (Str.ofString "*") by rw [h]), decide_eq_true h]
          · rw [decide_eq_false (fun e => h (V.str.inj e)), decide_eq_false h]
        refine ⟨.ref R, rfl, .int (i : Int), rfl, 3, (i : Int), rfl, rfl, .inl ⟨by decide, by decide⟩, _, 1, rfl, rfl, R, _, _, .int r1, rfl, rfl, SqL.of (sm4 _ _ hR), at_of (j := 3 * i + 1) (by omega) (i_at e1), l4, _, r1, .str zk, rfl, rfl, SqL.of h4, y1, ?_⟩
        refine ⟨.str z2, rfl, .str zk, rfl, z2, zk, rfl, rfl, add_room hz2 (by omega) (by decide), ?_⟩
        refine ⟨.int N, rfl, .str zk, rfl, rfl, .inr ⟨_, rfl, N, _, rfl, rfl, ?_⟩⟩
        dsimp only
        rw [hkb (Str.ofString "")]
        refine ⟨.ref R, rfl, .int (i : Int), rfl, 3, (i : Int), rfl, rfl, .inl ⟨by decide, by decide⟩, _, 2, rfl, rfl, R, _, _, .int r2, rfl, rfl, SqL.of (sm4 _ _ hR), at_of (j := 3 * i + 2) (by omega) (i_at e2), r2, 0, rfl, rfl, _, rfl, ite2 (fun hk => ?_) (fun hk => ?_)⟩
        · have h2 : 0 < r2 := by have := of_decide_eq_true hk; omega
          obtain ⟨zd, zm, y2, hzd, gm⟩ := mark_at (g := r2 - 1) (by omega) (by omega)
          refine ⟨.str (z2 ++ zk), rfl, by show 2 ≤ sizeLine; decide, fun l5 n5 => ?_⟩
          have s5 := same_new n5 (o := .lst marksL)
          have h5 : (upd H4 l5 (.lst marksL)) l5 = some (.lst marksL) := upd_same
          generalize upd H4 l5 (.lst marksL) = H5 at s5 h5 ⊢
          have sm5 := sm4.trans s5
          have hzl9 : (tl zd).length ≤ 9 := by rw [hzd, List.length_cons]; have := gm.2.1; omega
          refine ⟨.ref R, rfl, .int (i : Int), rfl, 3, (i : Int), rfl, rfl, .inl ⟨by decide, by decide⟩, _, 2, rfl, rfl, R, _, _, .int r2, rfl, rfl, SqL.of (sm5 _ _ hR), at_of (j := 3 * i + 2) (by omega) (i_at e2), r2, 1, rfl, rfl, l5, _, r2 - 1, .str zd, rfl, rfl, SqL.of h5, y2, z2 ++ zk, zd, rfl, rfl, add_room hl1 (by omega) (by decide), ?_⟩
          refine ⟨.int M, rfl, M, 1, rfl, rfl, ?_⟩
          have hne : tl zm ≠ [] := fun e => by have := gm.1; rw [e] at this; simp at this
          have h3 := hw (zk, zm) ⟨gk, .inr gm⟩
          have hmk : mkN (zk, zm) = 1 := by unfold mkN asks; rw [decide_eq_false hne]; rfl
          unfold wordL at h3
          rw [if_neg hne, hmk] at h3
          refine ⟨_, _, _, _, _, rfl, sm5, ?_⟩
          rw [tl_add, tl_add, hzd, List.append_assoc]
          exact h3
        · refine ⟨_, _, _, _, _, rfl, sm4, ?_⟩
          have h3 := hw (zk, Str.ofString "") ⟨gk, .inl tl_empty⟩
          have hmk : mkN (zk, Str.ofString "") = 0 := by unfold mkN asks; rw [decide_eq_true (p := tl (zk, Str.ofString "").2 = []) tl_empty]; rfl
          unfold wordL at h3
          rw [if_pos tl_empty, List.append_nil, hmk, Int.add_zero] at h3
          rw [tl_add]; exact h3
    · rintro σ H' ⟨z, M, N, y6, y7, rfl, sm, hz⟩
      have hzl := hz.len (by omega)
      obtain ⟨x, rs', hzt, gx, gr, hl, rfl, rfl⟩ := hz
      obtain ⟨nm, y1, hnm⟩ := name_at b10 d10
      obtain ⟨d, y2, hd⟩ := dig_at b11 d11
      have n1 := nm_len hnm
      have n2 := dig_len hd
      refine ⟨by show 6 ≤ sizeLine; decide, fun l6 n6 => ?_⟩
      have s6 := same_new n6 (o := .lst namesL)
      have h6 : (upd H' l6 (.lst namesL)) l6 = some (.lst namesL) := upd_same
      generalize upd H' l6 (.lst namesL) = H6 at s6 h6 ⊢
      have sm6 := sm.trans s6
      refine ⟨.ref R, rfl, R, _, 10, .int g10, rfl, rfl, SqL.of (sm6 _ _ hR), atI_nat (j := 10) (i_at a10), l6, _, g10, .str nm, rfl, rfl, SqL.of h6, y1, ?_⟩
      have c1 : (tl (z ++ Str.ofString ": ")).length ≤ 79 := by rw [tl_add, List.length_append, tl_colo]; show _ + 2 ≤ _; omega
      have c2 : (tl (z ++ Str.ofString ": " ++ nm)).length ≤ 85 := by rw [tl_add, List.length_append]; omega
      have c3 : (tl (z ++ Str.ofString ": " ++ nm ++ Str.ofString " ")).length ≤ 86 := by rw [tl_add, List.length_append, tl_blk]; show _ + 1 ≤ _; omega
      refine ⟨.str z, rfl, z, _, rfl, rfl, add_room hzl (by decide +kernel) (by decide), .str nm, rfl, _, nm, rfl, rfl, add_room c1 (by omega) (by decide), _, _, rfl, rfl, add_room c2 (by decide +kernel) (by decide), by show 3 ≤ sizeLine; decide, fun l7 n7 => ?_⟩
      have s7 := same_new n7 (o := .lst digsL)
      have h7 : (upd H6 l7 (.lst digsL)) l7 = some (.lst digsL) := upd_same
      generalize upd H6 l7 (.lst digsL) = H7 at s7 h7 ⊢
      have sm7 := sm6.trans s7
      refine ⟨.ref R, rfl, R, _, 11, .int g11, rfl, rfl, SqL.of (sm7 _ _ hR), atI_nat (j := 11) (i_at a11), l7, _, g11, .str (digS d), rfl, rfl, SqL.of h7, y2, _, digS d, rfl, rfl, add_room c3 (by omega) (by decide), ?_⟩
      have c4 : (tl (z ++ Str.ofString ": " ++ nm ++ Str.ofString " " ++ digS d)).length ≤ 87 := by rw [tl_add, List.length_append]; omega
      have hlen4 : (x :: rs'.map (·.2)).length ≤ 4 := by rw [List.length_cons, List.length_map]; omega
      have fin : ∀ f : Bool, Reads (if f = true then z ++ Str.ofString ": " ++ nm ++ Str.ofString " " ++ digS d ++ Str.ofString " firm" else z ++ Str.ofString ": " ++ nm ++ Str.ofString " " ++ digS d) (x :: rs'.map (·.2), f) := fun f => by
        refine ⟨z, x, rs', nm, d, ⟨str_eq ?_, hzt, gx, gr, by omega, hnm, hd⟩, rfl⟩
        rw [tl_add, tl_add, tl_bid, tl_col]
        cases f with
        | true =>
          rw [if_pos rfl, if_pos rfl, tl_add, tl_add, tl_add, tl_add, tl_add, tl_colo, tl_blk, tl_sfirm]
          simp
        | false =>
          rw [if_neg Bool.false_ne_true, if_neg Bool.false_ne_true, tl_add, tl_add, tl_add, tl_add, tl_colo, tl_blk]
          simp
      have f1 : Reads (z ++ Str.ofString ": " ++ nm ++ Str.ofString " " ++ digS d ++ Str.ofString " firm") (x :: rs'.map (·.2), true) := fin true
      have f2 : Reads (z ++ Str.ofString ": " ++ nm ++ Str.ofString " " ++ digS d) (x :: rs'.map (·.2), false) := fin false
      clear fin
      generalize hts : x :: rs'.map (·.2) = ts at f1 f2 hlen4 ⊢
      refine ⟨.ref R, rfl, R, _, 9, .int g9, rfl, rfl, SqL.of (sm7 _ _ hR), atI_nat (j := 9) (i_at a9), rfl, _, rfl, ite2 (fun hk => ?_) (fun hk => ?_)⟩
      · refine ⟨_, rfl, _, _, rfl, rfl, add_room c4 (by decide +kernel) (by decide), .int _, rfl, .int _, rfl, .int (k : Int), rfl, by show 4 ≤ sizeLine; decide, fun t nt => ⟨by show 2 ≤ sizeLine; decide, fun p np => ?_⟩⟩
        have st := same_new nt (o := .tup (rkOf (ts, true) k).vs)
        refine q _ p t _ (ts, true) (s01.trans (sm7.trans (st.trans (same_new np)))) (s01.free (sm7.free (st.free np))) upd_same ((same_new np) _ _ upd_same) f1 hlen4
      · refine ⟨_, rfl, .int _, rfl, .int _, rfl, .int (k : Int), rfl, by show 4 ≤ sizeLine; decide, fun t nt => ⟨by show 2 ≤ sizeLine; decide, fun p np => ?_⟩⟩
        have st := same_new nt (o := .tup (rkOf (ts, false) k).vs)
        refine q _ p t _ (ts, false) (s01.trans (sm7.trans (st.trans (same_new np)))) (s01.free (sm7.free (st.free np))) upd_same ((same_new np) _ _ upd_same) f2 hlen4
end
end K11

set_option maxRecDepth 100000
set_option maxHeartbeats 4000000
namespace K11
open PySem PySem.Spec PyProof.Rows L2 R8
structure Own (K : PySem.W.Frag) (C : Addr) (m : Str) (f : Addr) : Prop where
  at_ : PySem.W.findIn K (.ref C) m = some (some (.ref f))
  fn : PySem.W.isFn K (.ref f) = true
theorem three_at (p : P4) {n : Nat} (h : n < 3) : ([V.int p.m, .int p.k, .int p.i] : List V)[n]? = some (.int (pn4 p (n + 1))) ∧ p.vs[n + 1]? = some (.int (pn4 p (n + 1))) := by
  match n, h with
  | 0, _ => exact ⟨rfl, rfl⟩
  | 1, _ => exact ⟨rfl, rfl⟩
  | 2, _ => exact ⟨rfl, rfl⟩
  | n + 3, h => omega
def opN (n : Nat) : CmpOp := match n with | 0 => .Eq | 1 => .NotEq | 2 => .Lt | 3 => .LtE | 4 => .Gt | _ => .GtE
def ansL (d : Int) : List V := [.bl (ansOf .Eq d), .bl (ansOf .NotEq d), .bl (ansOf .Lt d), .bl (ansOf .LtE d), .bl (ansOf .Gt d), .bl (ansOf .GtE d)]
theorem six_at (d : Int) {n : Nat} (h : n < 6) : (ansL d)[n]? = some (.bl (ansOf (opN n) d)) := by
  match n, h with
  | 0, _ => rfl
  | 1, _ => rfl
  | 2, _ => rfl
  | 3, _ => rfl
  | 4, _ => rfl
  | 5, _ => rfl
  | n + 6, h => omega
section
variable {P : Program} {w : World} {K : PySem.W.Frag} {mg : Str → Option Value} {base : Heap} {t1 t2 t3 t4 t5 t6 u1 u2 u3 : Tok}
/-! ### _law_fields -/
def spFields (CR : Addr) : Sp := fun vs H Q _ => ∃ (r t : Addr) (p : P4), vs = [.ref r, .ref t] ∧ RankAt CR H r p ∧ H t = some (.tup p.vs) ∧ ∀ H', Same H H' → Q (.bl true) H'
abbrev nFi : List Str := ["_law_rank", "_law_parts_here", "_law_fields_here", "_law_k"]
theorem scFields : FnScope nFi ["_law_rank", "_law_parts_here"] (defScope sFields) := ⟨rfl, rfl, rfl, by decide +kernel, rfl, by decide +kernel, by decide +kernel⟩
set_option maxHeartbeats 8000000 in
theorem ok_fields {CR f f_number f_sREq f_sRNe : Addr} {fd fd_number fd_sREq fd_sRNe : FuncData} (B : Blt mg) (TR : RTxt K mg CR) (F : Fun K "_law_fields" "_law_fields" sFields f fd)
    (F_number : Fun K "_law_number" "_law_number" sNumber f_number fd_number) (b_number : Binds K fd_number ["_law_value"] []) (g_number : mg "_law_number" = some (.ref f_number))
    (F_sREq : Fun K "__eq__" "Rank.__eq__" sREq f_sREq fd_sREq) (b_sREq : Binds K fd_sREq nCm []) (EQ : Own K CR "__eq__" f_sREq)
    (F_sRNe : Fun K "__ne__" "Rank.__ne__" sRNe f_sRNe fd_sRNe) (b_sRNe : Binds K fd_sRNe nCm []) (NQ : Own K CR "__ne__" f_sRNe) :
    FnOk P w K mg base CX0 2 f fd ["_law_rank", "_law_parts_here"] (spFields CR) := by
  have G_number : FnOk P w K mg base CX0 1 f_number fd_number ["_law_value"] spNumber := ok_number B F_number
  have NE : R7.NiOk P w K mg base 1 f_sREq niR := ni_sREq B TR F_sREq b_sREq
  have NN : R7.NiOk P w K mg base 1 f_sRNe niR := ni_sRNe B TR F_sRNe b_sRNe
  refine F.ok scFields (fun vs H Q E h => ?_) (fun cdv A0 outer s H vs Q E hr h => ?_)
  · obtain ⟨r, t, p, rfl, _⟩ := h; rfl
  · obtain ⟨r, t, p, rfl, hR, ht, q⟩ := h
    have hr1 : Room 1 _ := hr.mono (by decide)
    refine ⟨_, (pss_cons (ps_if (PW.pt (pw_or (pt_not (pt_val (pe_callB call_isi (by rfl) B.isi (by decide +kernel) (pa_cons (pv 0) (pa_cons (pe_glob (v := .ref CR) (by rfl) TR.mgC rfl) pa_nil))))) (pw_or (pt_not (pt_val (pe_callB call_isi (by rfl) B.isi (by decide +kernel) (pa_cons (pe_fld (pv 0) rfl) (pa_cons (pe_bltn (v := .ty "bool") (by rfl) B.bool (by decide +kernel) rfl) pa_nil))))) (pw_or1 (pt_cmpR op_ne (pe_fld (pv 0) rfl) (pe_ix ix_tup (pv 1) pe_int (fun _ _ => rfl)) (nomark _))))))
      (pss_one (ps_ret pe_bl))
      pss_nil)
      (pss_cons (ps_set (i := 2) scFields.nd rfl (.inl rfl) (pe_lst (pa_cons (pe_fld (pv 0) rfl) (pa_cons (pe_fld (pv 0) rfl) (pa_cons (pe_fld (pv 0) rfl) pa_nil)))))
      (pss_cons (ps_for (PassesOwn.never) rfl (pi_range1 (by rfl) B.range (pa_cons pe_int pa_nil)) (pg_name (i := 3) scFields.nd rfl (.inl rfl))
      (pss_one (ps_if (PW.pt (pw_or (pt_not (pt_val (pe_call G_number hr1 (by rfl) g_number F_number.kp b_number .nil pass0 (pa_cons (pe_ix ix_list (pv 2) (pv 3) (fun _ _ => rfl)) pa_nil)))) (pw_or1 (pt_cmpR op_ne (pe_ix ix_list (pv 2) (pv 3) (fun _ _ => rfl)) (pe_ix ix_tup (pv 1) (pe_op op_add (pv 3) pe_int) (fun _ _ => rfl)) (nomark _)))))
       (pss_one (ps_ret pe_bl))
       pss_nil)))
      (pss_one (ps_ret (pe_and (pe_cmpR op_is_bl (pe_cmpR (op_niT (op := .Eq) (.inl ⟨rfl, rfl⟩) EQ.at_ EQ.fn TR.sb NE hr1) (pv 0) (pv 1) (nomark _)) pe_bl (nomark _)) (pe_one (pe_cmpR op_is_bl (pe_cmpR (op_niT (op := .NotEq) (.inr ⟨rfl, rfl⟩) NQ.at_ NQ.fn TR.sb NN hr1) (pv 0) (pv 1) (nomark _)) pe_bl (nomark _))))))))), ?_⟩
    obtain ⟨dx, fs, b, hp, f1, f2, f3, f4, f5, hb⟩ := id hR.ex
    refine ⟨.ref r, rfl, .ref r, .ref CR, .ref CR, .ref CR, true, rfl, .own CR, .base (.ins hp TR.cl TR.ha TR.hn TR.ht TR.hm), TR.ks, _, rfl, iteF ?_⟩
    refine ⟨.ref r, rfl, r, CR, dx, fs, .bl p.f, rfl, hp, TR.cl, TR.n_firm, f1, .bl p.f, .ty "bool", .type "bool", .type "bool", true, rfl, .ty "bool", .base (.bl p.f), kit_ty (by decide +kernel), _, rfl, iteF ?_⟩
    refine ⟨.ref r, rfl, r, CR, dx, fs, .bl p.f, rfl, hp, TR.cl, TR.n_firm, f1, .ref t, rfl, t, _, 0, .bl p.f, rfl, rfl, SqT.of ht, atI_nat (j := 0) rfl, rfl, _, rfl, ?_⟩
    rw [decide_eq_true (p := V.bl p.f = V.bl p.f) rfl]
    refine iteF ?_
    refine ⟨.ref r, rfl, r, CR, dx, fs, .int p.m, rfl, hp, TR.cl, TR.n_marks, f2, .ref r, rfl, r, CR, dx, fs, .int p.k, rfl, hp, TR.cl, TR.n_kinds, f3, .ref r, rfl, r, CR, dx, fs, .int p.i, rfl, hp, TR.cl, TR.n_index, f4, by show 3 ≤ sizeLine; decide, fun l nl => ?_⟩
    have s1 := same_new nl (o := .lst [.int p.m, .int p.k, .int p.i])
    have hl : (upd H l (.lst [.int p.m, .int p.k, .int p.i])) l = some (.lst [.int p.m, .int p.k, .int p.i]) := upd_same
    generalize upd H l (.lst [.int p.m, .int p.k, .int p.i]) = H1 at s1 hl ⊢
    refine ⟨3, rfl, by decide, by decide, ?_⟩
    refine for_range (lo := 0) (n := 3) (fun n σ H' => ∃ y3, σ = [some (.ref r), some (.ref t), some (.ref l), y3] ∧ Same H1 H') ⟨none, rfl, Same.refl _⟩ ?_ ?_
    · rintro n σ H' hn ⟨y3, rfl, sm⟩
      have e0 : (0 : Int) + (n : Int) = (n : Int) := by omega
      rw [e0]
      obtain ⟨w1, w2⟩ := three_at p hn
      have e1 : ((n : Int) + 1) = ((n + 1 : Nat) : Int) := by omega
      refine ⟨.ref l, rfl, .int (n : Int), rfl, l, _, (n : Int), _, rfl, rfl, SqL.of (sm _ _ hl), atI_nat w1, pn4 p (n + 1), rfl, _, rfl, iteF ?_⟩
      refine ⟨.ref l, rfl, .int (n : Int), rfl, l, _, (n : Int), _, rfl, rfl, SqL.of (sm _ _ hl), atI_nat w1, .ref t, rfl, .int (n : Int), rfl, (n : Int), 1, rfl, rfl, t, _, _, .int (pn4 p (n + 1)), rfl, rfl, SqT.of (sm _ _ (s1 _ _ ht)), (by rw [e1]; exact atI_nat w2), rfl, _, rfl, ?_⟩
      rw [decide_eq_true (p := V.int (pn4 p (n + 1)) = V.int (pn4 p (n + 1))) rfl]
      exact iteF ⟨_, rfl, sm⟩
    · rintro σ H' ⟨y3, rfl, sm⟩
      have s2 := s1.trans sm
      refine ⟨.ref r, rfl, .ref t, rfl, r, dx, fs, t, _, rfl, rfl, s2 _ _ hp, s2 _ _ ht, r, t, _, rfl, s2 _ _ ht, ⟨dx, fs, s2 _ _ hp⟩, ⟨_, s2 _ _ ht⟩, false, false, rfl, rfl, _, rfl, iteT ?_⟩
      exact ⟨.ref r, rfl, .ref t, rfl, r, dx, fs, t, _, rfl, rfl, s2 _ _ hp, s2 _ _ ht, r, t, _, rfl, s2 _ _ ht, ⟨dx, fs, s2 _ _ hp⟩, ⟨_, s2 _ _ ht⟩, true, true, rfl, rfl, q _ s2⟩
/-! ### _law_compared -/
def spComp (CR : Addr) : Sp := fun vs H Q _ => ∃ (a b : Addr) (p p2 : P4), vs = [.ref a, .ref b, .int (p.ord p2)] ∧ RankAt CR H a p ∧ RankAt CR H b p2 ∧ ∀ H', Same H H' → Q (.bl true) H'
abbrev nCo : List Str := ["_law_one", "_law_two", "_law_order_here", "_law_told", "_law_due", "_law_k"]
theorem scComp : FnScope nCo ["_law_one", "_law_two", "_law_order_here"] (defScope sCompared) := ⟨rfl, rfl, rfl, by decide +kernel, rfl, by decide +kernel, by decide +kernel⟩
set_option maxHeartbeats 8000000 in
theorem ok_comp {CR f f_sREq f_sRNe f_sRLt f_sRLe f_sRGt f_sRGe : Addr} {fd fd_sREq fd_sRNe fd_sRLt fd_sRLe fd_sRGt fd_sRGe : FuncData} (B : Blt mg) (TR : RTxt K mg CR) (F : Fun K "_law_compared" "_law_compared" sCompared f fd)
    (F_sREq : Fun K "__eq__" "Rank.__eq__" sREq f_sREq fd_sREq) (b_sREq : Binds K fd_sREq nCm []) (EQ : Own K CR "__eq__" f_sREq)
    (F_sRNe : Fun K "__ne__" "Rank.__ne__" sRNe f_sRNe fd_sRNe) (b_sRNe : Binds K fd_sRNe nCm []) (NQ : Own K CR "__ne__" f_sRNe)
    (F_sRLt : Fun K "__lt__" "Rank.__lt__" sRLt f_sRLt fd_sRLt) (b_sRLt : Binds K fd_sRLt nCm []) (LT : Own K CR "__lt__" f_sRLt)
    (F_sRLe : Fun K "__le__" "Rank.__le__" sRLe f_sRLe fd_sRLe) (b_sRLe : Binds K fd_sRLe nCm []) (LE : Own K CR "__le__" f_sRLe)
    (F_sRGt : Fun K "__gt__" "Rank.__gt__" sRGt f_sRGt fd_sRGt) (b_sRGt : Binds K fd_sRGt nCm []) (GT : Own K CR "__gt__" f_sRGt)
    (F_sRGe : Fun K "__ge__" "Rank.__ge__" sRGe f_sRGe fd_sRGe) (b_sRGe : Binds K fd_sRGe nCm []) (GE : Own K CR "__ge__" f_sRGe) :
    FnOk P w K mg base CX0 2 f fd ["_law_one", "_law_two", "_law_order_here"] (spComp CR) := by
  have G_sREq : FnOk P w K mg base CX0 1 f_sREq fd_sREq nCm (spCmp CR .Eq) := ok_sREq B TR F_sREq
  have G_sRNe : FnOk P w K mg base CX0 1 f_sRNe fd_sRNe nCm (spCmp CR .NotEq) := ok_sRNe B TR F_sRNe
  have G_sRLt : FnOk P w K mg base CX0 1 f_sRLt fd_sRLt nCm (spCmp CR .Lt) := ok_sRLt B TR F_sRLt
  have G_sRLe : FnOk P w K mg base CX0 1 f_sRLe fd_sRLe nCm (spCmp CR .LtE) := ok_sRLe B TR F_sRLe
  have G_sRGt : FnOk P w K mg base CX0 1 f_sRGt fd_sRGt nCm (spCmp CR .Gt) := ok_sRGt B TR F_sRGt
  have G_sRGe : FnOk P w K mg base CX0 1 f_sRGe fd_sRGe nCm (spCmp CR .GtE) := ok_sRGe B TR F_sRGe
  refine F.ok scComp (fun vs H Q E h => ?_) (fun cdv A0 outer s H vs Q E hr h => ?_)
  · obtain ⟨a, b, p, p2, rfl, _⟩ := h; rfl
  · obtain ⟨a, b, p, p2, rfl, h1, h2, q⟩ := h
    have hr1 : Room 1 _ := hr.mono (by decide)
    refine ⟨_, (pss_cons (ps_set (i := 3) scComp.nd rfl (.inl rfl) (pe_lst (pa_cons (pe_cmpR (op_cmpOwn (op := .Eq) (fun _ _ => rfl) G_sREq EQ.at_ EQ.fn b_sREq hr1 pass0) (pv 0) (pv 1) (nomark _)) (pa_cons (pe_cmpR (op_cmpOwn (op := .NotEq) (fun _ _ => rfl) G_sRNe NQ.at_ NQ.fn b_sRNe hr1 pass0) (pv 0) (pv 1) (nomark _)) (pa_cons (pe_cmpR (op_cmpOwn (op := .Lt) (fun _ _ => rfl) G_sRLt LT.at_ LT.fn b_sRLt hr1 pass0) (pv 0) (pv 1) (nomark _)) (pa_cons (pe_cmpR (op_cmpOwn (op := .LtE) (fun _ _ => rfl) G_sRLe LE.at_ LE.fn b_sRLe hr1 pass0) (pv 0) (pv 1) (nomark _)) (pa_cons (pe_cmpR (op_cmpOwn (op := .Gt) (fun _ _ => rfl) G_sRGt GT.at_ GT.fn b_sRGt hr1 pass0) (pv 0) (pv 1) (nomark _)) (pa_cons (pe_cmpR (op_cmpOwn (op := .GtE) (fun _ _ => rfl) G_sRGe GE.at_ GE.fn b_sRGe hr1 pass0) (pv 0) (pv 1) (nomark _)) pa_nil))))))))
      (pss_cons (ps_set (i := 4) scComp.nd rfl (.inl rfl) (pe_lst (pa_cons (pe_cmpR op_eq (pv 2) pe_int (nomark _)) (pa_cons (pe_cmpR op_ne (pv 2) pe_int (nomark _)) (pa_cons (pe_cmpR op_lt (pv 2) pe_int (nomark _)) (pa_cons (pe_cmpR op_le (pv 2) pe_int (nomark _)) (pa_cons (pe_cmpR op_gt (pv 2) pe_int (nomark _)) (pa_cons (pe_cmpR op_ge (pv 2) pe_int (nomark _)) pa_nil))))))))
      (pss_cons (ps_for (PassesOwn.never) rfl (pi_range1 (by rfl) B.range (pa_cons pe_int pa_nil)) (pg_name (i := 5) scComp.nd rfl (.inl rfl))
      (pss_one (ps_if (PW.pt (pw_or (pt_not (pt_val (pe_callB call_isi (by rfl) B.isi (by decide +kernel) (pa_cons (pe_ix ix_list (pv 3) (pv 5) (fun _ _ => rfl)) (pa_cons (pe_bltn (v := .ty "bool") (by rfl) B.bool (by decide +kernel) rfl) pa_nil))))) (pw_or1 (pt_cmpR op_ne (pe_ix ix_list (pv 3) (pv 5) (fun _ _ => rfl)) (pe_ix ix_list (pv 4) (pv 5) (fun _ _ => rfl)) (nomark _)))))
       (pss_one (ps_ret pe_bl))
       pss_nil)))
      (pss_one (ps_ret pe_bl))))), ?_⟩
    obtain ⟨dx, fs, b1, ha, _⟩ := id h1.ex
    obtain ⟨dy, gs, b2, hb, _⟩ := id h2.ex
    generalize hd : p.ord p2 = d
    refine ⟨.ref a, rfl, .ref b, rfl, a, dx, fs, b, dy, gs, rfl, rfl, ha, hb, a, b, p, p2, rfl, h1, h2, _, rfl, .ref a, rfl, .ref b, rfl, a, dx, fs, b, dy, gs, rfl, rfl, ha, hb, a, b, p, p2, rfl, h1, h2, _, rfl, .ref a, rfl, .ref b, rfl, a, dx, fs, b, dy, gs, rfl, rfl, ha, hb, a, b, p, p2, rfl, h1, h2, _, rfl, .ref a, rfl, .ref b, rfl, a, dx, fs, b, dy, gs, rfl, rfl, ha, hb, a, b, p, p2, rfl, h1, h2, _, rfl, .ref a, rfl, .ref b, rfl, a, dx, fs, b, dy, gs, rfl, rfl, ha, hb, a, b, p, p2, rfl, h1, h2, _, rfl, .ref a, rfl, .ref b, rfl, a, dx, fs, b, dy, gs, rfl, rfl, ha, hb, a, b, p, p2, rfl, h1, h2, _, rfl, by show 6 ≤ sizeLine; decide, fun l1 n1 => ?_⟩
    rw [hd]
    have s1 := same_new n1 (o := .lst (ansL d))
    have hl1 : (upd H l1 (.lst (ansL d))) l1 = some (.lst (ansL d)) := upd_same
    have e1 : upd H l1 (.lst [.bl (ansOf .Eq d), .bl (ansOf .NotEq d), .bl (ansOf .Lt d), .bl (ansOf .LtE d), .bl (ansOf .Gt d), .bl (ansOf .GtE d)]) = upd H l1 (.lst (ansL d)) := rfl
    rw [e1]
    generalize upd H l1 (.lst (ansL d)) = H1 at s1 hl1 ⊢
    refine ⟨.int d, rfl, rfl, .int d, rfl, rfl, .int d, rfl, d, 0, rfl, rfl, .int d, rfl, d, 0, rfl, rfl, .int d, rfl, d, 0, rfl, rfl, .int d, rfl, d, 0, rfl, rfl, by show 6 ≤ sizeLine; decide, fun l2 n2 => ?_⟩
    have e2 : ([.bl (decide (V.int d = V.int 0)), .bl (!decide (V.int d = V.int 0)), .bl (decide (d < 0)), .bl (decide (d ≤ 0)), .bl (decide (d > 0)), .bl (decide (d ≥ 0))] : List V) = ansL d := by
      rw [eqI]; rfl
    rw [e2]
    have s2 := same_new n2 (o := .lst (ansL d))
    have hl2 : (upd H1 l2 (.lst (ansL d))) l2 = some (.lst (ansL d)) := upd_same
    generalize upd H1 l2 (.lst (ansL d)) = H2 at s2 hl2 ⊢
    have hl12 := s2 _ _ hl1
    have s02 := s1.trans s2
    refine ⟨6, rfl, by decide, by decide, ?_⟩
    refine for_range (lo := 0) (n := 6) (fun n σ H' => ∃ y, σ = [some (.ref a), some (.ref b), some (.int d), some (.ref l1), some (.ref l2), y] ∧ Same H2 H') ⟨none, rfl, Same.refl _⟩ ?_ ?_
    · rintro n σ H' hn ⟨y, rfl, sm⟩
      have e0 : (0 : Int) + (n : Int) = (n : Int) := by omega
      rw [e0]
      have w1 := six_at d hn
      refine ⟨.ref l1, rfl, .int (n : Int), rfl, l1, _, (n : Int), _, rfl, rfl, SqL.of (sm _ _ hl12), atI_nat w1, .bl _, .ty "bool", .type "bool", .type "bool", true, rfl, .ty "bool", .base (.bl _), kit_ty (by decide +kernel), _, rfl, iteF ?_⟩
      refine ⟨.ref l1, rfl, .int (n : Int), rfl, l1, _, (n : Int), _, rfl, rfl, SqL.of (sm _ _ hl12), atI_nat w1, .ref l2, rfl, .int (n : Int), rfl, l2, _, (n : Int), _, rfl, rfl, SqL.of (sm _ _ hl2), atI_nat w1, rfl, _, rfl, ?_⟩
      rw [decide_eq_true rfl]
      exact iteF ⟨_, rfl, sm⟩
    · rintro σ H' ⟨y, rfl, sm⟩
      exact q _ (s02.trans sm)
end
end K11

set_option maxRecDepth 100000
set_option maxHeartbeats 4000000
namespace K11
open PySem PySem.Spec PyProof.Rows L2 R8
/-! ### what stays when lists change -/
def NL (H H' : Hp) : Prop := ∀ b o, (∀ ys, o ≠ HO.lst ys) → H b = some o → H' b = some o
theorem NL.of {H H' : Hp} (s : Same H H') : NL H H' := fun b o _ h => s b o h
theorem NL.trans {H1 H2 H3 : Hp} (a : NL H1 H2) (b : NL H2 H3) : NL H1 H3 := fun c o n h => b c o n (a c o n h)
theorem NL.set {H : Hp} {D : Addr} {us vs : List V} (h : H D = some (.lst us)) : NL H (upd H D (.lst vs)) := fun b o n e => by
  have : b ≠ D := fun hb => by subst hb; rw [h] at e; cases e; exact n us rfl
  rw [upd_ne this]; exact e
theorem NL.tup {H H' : Hp} (s : NL H H') {b : Addr} {ys : List V} (h : H b = some (.tup ys)) : H' b = some (.tup ys) := s b _ (fun _ e => by cases e) h
theorem NL.ins {H H' : Hp} (s : NL H H') {b C dx : Addr} {fs : List (Str × V)} (h : H b = some (.ins C dx fs)) : H' b = some (.ins C dx fs) := s b _ (fun _ e => by cases e) h
theorem RankAt.nl {C : Addr} {H H' : Hp} {r : Addr} {p : P4} (h : RankAt C H r p) (s : NL H H') : RankAt C H' r p := by
  obtain ⟨dx, fs, b, h1, h2, h3, h4, h5, h6, h7⟩ := h.ex
  exact ⟨dx, fs, b, s.ins h1, h2, h3, h4, h5, h6, s.tup h7⟩
theorem RowAt.nl {CP : Addr} {H H' : Hp} {v : V} {r : RowV} (h : RowAt CP H v r) (s : NL H H') : RowAt CP H' v r := by
  obtain ⟨t, p, nm, zp, d, h1, h2, dx, fs, a, us, g1, g2, g3, g4, g5⟩ := h
  exact ⟨t, p, nm, zp, d, h1, s.tup h2, dx, fs, a, us, s.ins g1, g2, g3, s.tup g4, g5.tups fun _ _ e => s.tup e⟩
/-- drawn parts as tuples -/
def PAt (H : Hp) (us : List V) (ps : List P4) : Prop := us.length = ps.length ∧ ∀ (i : Nat) v p, us[i]? = some v → ps[i]? = some p → ∃ t, v = .ref t ∧ H t = some (.tup (P4.vs p))
def RAt (C : Addr) (H : Hp) (us : List V) (ps : List P4) : Prop := us.length = ps.length ∧ ∀ (i : Nat) v p, us[i]? = some v → ps[i]? = some p → ∃ t, v = .ref t ∧ RankAt C H t p
theorem snoc_get {α β : Type} {us : List α} {ps : List β} {v : α} {p : β} (hl : us.length = ps.length) {i : Nat} {x : α} {y : β} (h1 : (us ++ [v])[i]? = some x) (h2 : (ps ++ [p])[i]? = some y) : (us[i]? = some x ∧ ps[i]? = some y) ∨ (x = v ∧ y = p) := by
  by_cases hi : i < us.length
  · rw [List.getElem?_append_left hi] at h1
    rw [List.getElem?_append_left (by omega)] at h2
    exact .inl ⟨h1, h2⟩
  · rw [List.getElem?_append_right (by omega)] at h1
    rw [List.getElem?_append_right (by omega), ← hl] at h2
    have h0 : i - us.length = 0 := by
      have := (List.getElem?_eq_some_iff.mp h1).1
      simp at this; omega
    rw [h0] at h1 h2
    cases h1; cases h2
    exact .inr ⟨rfl, rfl⟩
theorem PAt.nl {H H' : Hp} {us : List V} {ps : List P4} (h : PAt H us ps) (s : NL H H') : PAt H' us ps := ⟨h.1, fun i v p h1 h2 => let ⟨t, e, ht⟩ := h.2 i v p h1 h2; ⟨t, e, s.tup ht⟩⟩
theorem PAt.snoc {H : Hp} {us : List V} {ps : List P4} {t : Addr} {p : P4} (h : PAt H us ps) (ht : H t = some (.tup (P4.vs p))) : PAt H (us ++ [.ref t]) (ps ++ [p]) := by
  refine ⟨by rw [List.length_append, List.length_append, h.1]; rfl, fun i v' p' h1 h2 => ?_⟩
  rcases snoc_get h.1 h1 h2 with ⟨a, b⟩ | ⟨rfl, rfl⟩
  · exact h.2 i v' p' a b
  · exact ⟨t, rfl, ht⟩
theorem RAt.nl {C : Addr} {H H' : Hp} {us : List V} {ps : List P4} (h : RAt C H us ps) (s : NL H H') : RAt C H' us ps := ⟨h.1, fun i v p h1 h2 => let ⟨t, e, ht⟩ := h.2 i v p h1 h2; ⟨t, e, ht.nl s⟩⟩
theorem RAt.snoc {C : Addr} {H : Hp} {us : List V} {ps : List P4} {t : Addr} {p : P4} (h : RAt C H us ps) (ht : RankAt C H t p) : RAt C H (us ++ [.ref t]) (ps ++ [p]) := by
  refine ⟨by rw [List.length_append, List.length_append, h.1]; rfl, fun i v' p' h1 h2 => ?_⟩
  rcases snoc_get h.1 h1 h2 with ⟨a, b⟩ | ⟨rfl, rfl⟩
  · exact h.2 i v' p' a b
  · exact ⟨t, rfl, ht⟩
theorem RowsAt.nl {CP : Addr} {H H' : Hp} {us : List V} {rows : List RowV} (h : RowsAt CP H us rows) (s : NL H H') : RowsAt CP H' us rows := ⟨h.1, fun i v r h1 h2 => (h.2 i v r h1 h2).nl s⟩
/-- what is drawn: lists of a text and a tuple -/
def DAt (F : Addr → Prop) (H : Hp) (vs : List V) (zs : List Str) (rows : List RowV) : Prop := vs.length = rows.length ∧ zs.length = rows.length ∧ ∀ (i : Nat) r, rows[i]? = some r → ∃ d t z, vs[i]? = some (.ref d) ∧ zs[i]? = some z ∧ F d ∧ H d = some (.lst [.str z, .ref t]) ∧ H t = some (.tup (rkOf r i).vs) ∧ Reads z r ∧ r.1.length ≤ 4
theorem DAt.snoc {F : Addr → Prop} {H H' : Hp} {vs : List V} {zs : List Str} {rows : List RowV} {d t : Addr} {z : Str} {r : RowV} (h : DAt F H vs zs rows) (s : ∀ e y, F e → H e = some (.lst y) → H' e = some (.lst y)) (sn : NL H H')
    (h0 : F d) (hd : H' d = some (.lst [.str z, .ref t])) (ht : H' t = some (.tup (rkOf r vs.length).vs)) (hr : Reads z r) (h4 : r.1.length ≤ 4) : DAt F H' (vs ++ [.ref d]) (zs ++ [z]) (rows ++ [r]) := by
  obtain ⟨l1, l2, hall⟩ := h
  refine ⟨by rw [List.length_append, List.length_append, l1]; rfl, by rw [List.length_append, List.length_append, l2]; rfl, fun i r' hi => ?_⟩
  by_cases hlt : i < rows.length
  · rw [List.getElem?_append_left hlt] at hi
    obtain ⟨d', t', z', e1, e2, e3, e4, e5, e6, e7⟩ := hall i r' hi
    exact ⟨d', t', z', by rw [List.getElem?_append_left (by omega)]; exact e1, by rw [List.getElem?_append_left (by omega)]; exact e2, e3, s d' _ e3 e4, sn.tup e5, e6, e7⟩
  · rw [List.getElem?_append_right (by omega)] at hi
    have h0' : i - rows.length = 0 := by
      have := (List.getElem?_eq_some_iff.mp hi).1
      simp at this; omega
    rw [h0'] at hi; cases hi
    have hi' : i = vs.length := by omega
    subst hi'
    exact ⟨d, t, z, by rw [List.getElem?_append_right (by omega), Nat.sub_self]; rfl, by rw [List.getElem?_append_right (by omega), l2, ← l1, Nat.sub_self]; rfl, h0, hd, ht, hr, h4⟩
section
variable {P : Program} {w : World} {K : PySem.W.Frag} {mg : Str → Option Value} {base : Heap} {t1 t2 t3 t4 t5 t6 u1 u2 u3 : Tok}
def spLaw (K : PySem.W.Frag) : Sp := fun vs H Q _ => ∃ (a : Addr) (ns : List Int), vs = [.ref a] ∧ SqL K H a (ns.map V.int) ∧ ns.length ≤ 63 ∧ ∀ H', Q (.bl true) H'
abbrev nLaw : List Str := ["_law_script", "_law_parts_here", "_law_before", "_law_k", "_law_ranks", "_law_one", "_law_many", "_law_drawn", "_law_sheet", "_law_two"]
theorem scLaw : FnScope nLaw ["_law_script"] (defScope sLaw) := ⟨rfl, rfl, rfl, by decide +kernel, rfl, by decide +kernel, by decide +kernel⟩
set_option maxHeartbeats 16000000 in
theorem ok_law {CP CS CR C RD fI pa_ pn_ f f_is_letter f_name_end f_is_name f_read_test f_read_tests f_value f_read_row f_cell f_row f_number f_parts f_line f_order f_fields f_compared f_pinit f_asked f_named f_rinit f_sREq f_sRNe f_sRLt f_sRLe f_sRGt f_sRGe f_sinit f_srow f_srank : Addr} {fdI fd fd_is_letter fd_name_end fd_is_name fd_read_test fd_read_tests fd_value fd_read_row fd_cell fd_row fd_number fd_parts fd_line fd_order fd_fields fd_compared fd_pinit fd_asked fd_named fd_rinit fd_sREq fd_sRNe fd_sRLt fd_sRLe fd_sRGt fd_sRGe fd_sinit fd_srow fd_srank : FuncData}
    (B : Blt mg) (Z : Cst mg t1 t2 t3 t4 t5 t6) (U : Shc mg RD u1 u2 u3) (RG : Rngs K w RD) (T : Txt K mg CP) (TS : STxt K mg CS) (TR : RTxt K mg CR) (M : Mk K CP f_pinit) (MR : Mk K CR f_rinit) (MS : Mk K CS f_sinit) (N : BadP K mg C fI fdI) (F : Fun K "law" "law" sLaw f fd)
    (F_is_letter : Fun K "is_letter" "is_letter" sLetter f_is_letter fd_is_letter) (b_is_letter : Binds K fd_is_letter ["char"] []) (g_is_letter : mg "is_letter" = some (.ref f_is_letter))
    (F_name_end : Fun K "name_end" "name_end" sNameEnd f_name_end fd_name_end) (b_name_end : Binds K fd_name_end ["text", "start"] []) (g_name_end : mg "name_end" = some (.ref f_name_end))
    (F_is_name : Fun K "is_name" "is_name" sIsName f_is_name fd_is_name) (b_is_name : Binds K fd_is_name ["text"] []) (g_is_name : mg "is_name" = some (.ref f_is_name))
    (F_read_test : Fun K "_read_test" "_read_test" sTest f_read_test fd_read_test) (b_read_test : Binds K fd_read_test ["word"] []) (g_read_test : mg "_read_test" = some (.ref f_read_test))
    (F_read_tests : Fun K "_read_tests" "_read_tests" sTests f_read_tests fd_read_tests) (b_read_tests : Binds K fd_read_tests ["text"] []) (g_read_tests : mg "_read_tests" = some (.ref f_read_tests))
    (F_value : Fun K "_read_value" "_read_value" sValue f_value fd_value) (b_value : Binds K fd_value ["text"] []) (g_value : mg "_read_value" = some (.ref f_value))
    (F_read_row : Fun K "_read_row" "_read_row" sRRow f_read_row fd_read_row) (b_read_row : Binds K fd_read_row ["line", "number"] []) (g_read_row : mg "_read_row" = some (.ref f_read_row))
    (F_cell : Fun K "_law_cell" "_law_cell" sCell f_cell fd_cell) (b_cell : Binds K fd_cell ["_law_script", "_law_k"] []) (g_cell : mg "_law_cell" = some (.ref f_cell))
    (F_row : Fun K "_law_row" "_law_row" sRow f_row fd_row) (b_row : Binds K fd_row ["_law_cell_here", "_law_limits"] []) (g_row : mg "_law_row" = some (.ref f_row))
    (F_number : Fun K "_law_number" "_law_number" sNumber f_number fd_number) (b_number : Binds K fd_number ["_law_value"] []) (g_number : mg "_law_number" = some (.ref f_number))
    (F_parts : Fun K "_law_parts" "_law_parts" sParts f_parts fd_parts) (b_parts : Binds K fd_parts ["_law_cell_here", "_law_before"] []) (g_parts : mg "_law_parts" = some (.ref f_parts))
    (F_line : Fun K "_law_line" "_law_line" sLine f_line fd_line) (b_line : Binds K fd_line ["_law_cell_here", "_law_index"] []) (g_line : mg "_law_line" = some (.ref f_line))
    (F_order : Fun K "_law_order" "_law_order" sOrder f_order fd_order) (b_order : Binds K fd_order ["_law_one", "_law_two"] []) (g_order : mg "_law_order" = some (.ref f_order))
    (F_fields : Fun K "_law_fields" "_law_fields" sFields f_fields fd_fields) (b_fields : Binds K fd_fields ["_law_rank", "_law_parts_here"] []) (g_fields : mg "_law_fields" = some (.ref f_fields))
    (F_compared : Fun K "_law_compared" "_law_compared" sCompared f_compared fd_compared) (b_compared : Binds K fd_compared ["_law_one", "_law_two", "_law_order_here"] []) (g_compared : mg "_law_compared" = some (.ref f_compared))
    (F_pinit : Fun K "__init__" "Pattern.__init__" sPInit f_pinit fd_pinit) (b_pinit : Binds K fd_pinit ["self", "text"] [])
    (F_asked : Fun K "asked" "Pattern.asked" sAsked f_asked fd_asked) (b_asked : Binds K fd_asked ["self"] []) (pa : PropOf K CP "asked" pa_ f_asked)
    (F_named : Fun K "named" "Pattern.named" sNamed f_named fd_named) (b_named : Binds K fd_named ["self"] []) (pn : PropOf K CP "named" pn_ f_named)
    (F_rinit : Fun K "__init__" "Rank.__init__" sRInit f_rinit fd_rinit) (b_rinit : Binds K fd_rinit ["self", "firm", "marks", "kinds", "index"] [])
    (F_sREq : Fun K "__eq__" "Rank.__eq__" sREq f_sREq fd_sREq) (b_sREq : Binds K fd_sREq ["self", "other"] []) (EQ : Own K CR "__eq__" f_sREq)
    (F_sRNe : Fun K "__ne__" "Rank.__ne__" sRNe f_sRNe fd_sRNe) (b_sRNe : Binds K fd_sRNe ["self", "other"] []) (NQ : Own K CR "__ne__" f_sRNe)
    (F_sRLt : Fun K "__lt__" "Rank.__lt__" sRLt f_sRLt fd_sRLt) (b_sRLt : Binds K fd_sRLt ["self", "other"] []) (LT : Own K CR "__lt__" f_sRLt)
    (F_sRLe : Fun K "__le__" "Rank.__le__" sRLe f_sRLe fd_sRLe) (b_sRLe : Binds K fd_sRLe ["self", "other"] []) (LE : Own K CR "__le__" f_sRLe)
    (F_sRGt : Fun K "__gt__" "Rank.__gt__" sRGt f_sRGt fd_sRGt) (b_sRGt : Binds K fd_sRGt ["self", "other"] []) (GT : Own K CR "__gt__" f_sRGt)
    (F_sRGe : Fun K "__ge__" "Rank.__ge__" sRGe f_sRGe fd_sRGe) (b_sRGe : Binds K fd_sRGe ["self", "other"] []) (GE : Own K CR "__ge__" f_sRGe)
    (F_sinit : Fun K "__init__" "Sheet.__init__" sSInit f_sinit fd_sinit) (b_sinit : Binds K fd_sinit ["self", "lines"] [])
    (F_srow : Fun K "row" "Sheet.row" sSRow f_srow fd_srow) (b_srow : Binds K fd_srow ["self", "index"] []) (m_row : Meth K CS "row" f_srow)
    (F_srank : Fun K "rank" "Sheet.rank" sSRank f_srank fd_srank) (b_srank : Binds K fd_srank ["self", "index"] []) (m_rank : Meth K CS "rank" f_srank) :
    FnOk P w K mg base CX0 11 f fd ["_law_script"] (spLaw K) := by
  have G_cell : FnOk P w K mg base CX0 1 f_cell fd_cell ["_law_script", "_law_k"] (spCell K) := ok_cell B F_cell
  have G_parts : FnOk P w K mg base CX0 2 f_parts fd_parts ["_law_cell_here", "_law_before"] spParts := ok_parts B F_parts F_row b_row g_row
  have G_line : FnOk P w K mg base CX0 2 f_line fd_line ["_law_cell_here", "_law_index"] spLine := ok_line B F_line F_row b_row g_row
  have G_order : FnOk P w K mg base CX0 1 f_order fd_order ["_law_one", "_law_two"] (spOrder K) := ok_order B F_order
  have G_fields : FnOk P w K mg base CX0 2 f_fields fd_fields ["_law_rank", "_law_parts_here"] (spFields CR) := ok_fields B TR F_fields F_number b_number g_number F_sREq b_sREq EQ F_sRNe b_sRNe NQ
  have G_compared : FnOk P w K mg base CX0 2 f_compared fd_compared ["_law_one", "_law_two", "_law_order_here"] (spComp CR) := ok_comp B TR F_compared F_sREq b_sREq EQ F_sRNe b_sRNe NQ F_sRLt b_sRLt LT F_sRLe b_sRLe LE F_sRGt b_sRGt GT F_sRGe b_sRGe GE
  have G_pinit : FnOk P w K mg base (L2.CX P w) 6 f_pinit fd_pinit ["self", "text"] (spPInit CP C) := ok_pinit B Z T N F_pinit F_read_tests b_read_tests g_read_tests F_read_test b_read_test g_read_test F_is_name b_is_name g_is_name F_name_end b_name_end g_name_end F_is_letter b_is_letter g_is_letter
  have G_rinit : FnOk P w K mg base CX0 1 f_rinit fd_rinit ["self", "firm", "marks", "kinds", "index"] (spRInit CR) := ok_rinit TR F_rinit
  have G_sinit : FnOk P w K mg base CX0 9 f_sinit fd_sinit ["self", "lines"] (spSInit CP CS) := ok_sinit B U RG T TS M N F_sinit G_pinit b_pinit F_value b_value g_value F_read_row b_read_row g_read_row
  have G_srank : FnOk P w K mg base CX0 3 f_srank fd_srank ["self", "index"] (spSRank CP CS CR) := ok_srank B Z T TS TR F_srank F_srow b_srow m_row MR F_rinit b_rinit F_asked b_asked pa F_named b_named pn
  refine F.ok scLaw (fun vs H Q E h => ?_) (fun cdv A0 outer s H vs Q E hr h => ?_)
  · obtain ⟨a, ns, rfl, _⟩ := h; rfl
  · obtain ⟨a, ns, rfl, hS, hlen, q⟩ := h
    have hr1 : Room 1 _ := hr.mono (by decide)
    have hr2 : Room 2 _ := hr.mono (by decide)
    have hr3 : Room 3 _ := hr.mono (by decide)
    refine ⟨_, (pss_cons (ps_set (i := 1) scLaw.nd rfl (.inl rfl) (pe_lst pa_nil))
      (pss_cons (ps_set (i := 2) scLaw.nd rfl (.inl rfl) (pe_tup pa_nil))
      (pss_cons (ps_for (PassesOwn.never) rfl (pi_range1 (by rfl) B.range (pa_cons pe_int pa_nil)) (pg_name (i := 3) scLaw.nd rfl (.inl rfl))
      (pss_cons (ps_set (i := 2) scLaw.nd rfl (.inl rfl) (pe_call G_parts hr2 (by rfl) g_parts F_parts.kp b_parts .nil pass0 (pa_cons (pe_call G_cell hr1 (by rfl) g_cell F_cell.kp b_cell .nil pass0 (pa_cons (pv 0) (pa_cons (pv 3) pa_nil))) (pa_cons (pv 2) pa_nil))))
       (pss_one (ps_expr (pe_bm PySem.F.plainAttrs_list PySem.F.slot_list_append PySem.F.type_list_append mt_append (pv 1) (pa_cons (pv 2) pa_nil))))))
      (pss_cons (ps_setLc (i := 4) (own := [("_law_one", 5)]) (g := gName 5) (tt := tYes) rfl scLaw.nd rfl rfl (sw_true rfl rfl rfl (by decide +kernel)) (pi_list (pv 1)) (blkOk_by (N := nLaw) (sc := defScope sLaw) (by decide +kernel)) (fun _ _ _ _ _ => (pg_name (i := 5) scLaw.nd rfl (.inl rfl))) (fun _ _ _ _ _ => pts_nil) (fun _ _ _ _ _ => (pe_make MR G_rinit hr2 (by rfl) TR.mgC b_rinit .nil pass0 (pa_cons (pe_ix (show IxR _ (rIxT K) from ix_tup) (pv 5) pe_int (fun _ _ => rfl)) (pa_cons (pe_ix (show IxR _ (rIxT K) from ix_tup) (pv 5) pe_int (fun _ _ => rfl)) (pa_cons (pe_ix (show IxR _ (rIxT K) from ix_tup) (pv 5) pe_int (fun _ _ => rfl)) (pa_cons (pe_ix (show IxR _ (rIxT K) from ix_tup) (pv 5) pe_int (fun _ _ => rfl)) pa_nil)))))))
      (pss_cons (ps_set (i := 6) scLaw.nd rfl (.inl rfl) (pe_op op_add (pe_op op_modN (pe_callTy call_int1 (by rfl) B.int (by decide +kernel) (pa_cons (pe_call G_cell hr1 (by rfl) g_cell F_cell.kp b_cell .nil pass0 (pa_cons (pv 0) (pa_cons pe_int pa_nil))) pa_nil)) pe_int) pe_int))
      (pss_cons (ps_setLc (i := 7) (own := [("_law_k", 3)]) (g := gName 3) (tt := tYes) rfl scLaw.nd rfl rfl (sw_true rfl rfl rfl (by decide +kernel)) (pi_range1 (by rfl) B.range (pa_cons (pv 6) pa_nil)) (blkOk_by (N := nLaw) (sc := defScope sLaw) (by decide +kernel)) (fun _ _ _ _ _ => (pg_name (i := 3) scLaw.nd rfl (.inl rfl))) (fun _ _ _ _ _ => pts_nil) (fun _ _ _ _ _ => (pe_call G_line hr2 (by rfl) g_line F_line.kp b_line .nil pass0 (pa_cons (pe_call G_cell hr1 (by rfl) g_cell F_cell.kp b_cell .nil pass0 (pa_cons (pv 0) (pa_cons (pe_op op_add pe_int (pv 3)) pa_nil))) (pa_cons (pv 3) pa_nil)))))
      (pss_cons (ps_set (i := 8) scLaw.nd rfl (.inl rfl) (pe_make MS G_sinit hr (by rfl) TS.mgC b_sinit .nil pass0 (pa_cons (pe_lc (own := [("_law_one", 5)]) (g := gName 5) (tt := tYes) rfl scLaw.nd (pi_list (pv 7)) (blkOk_by (N := nLaw) (sc := defScope sLaw) (by decide +kernel)) (fun _ _ _ _ _ => (pg_name (i := 5) scLaw.nd rfl (.inl rfl))) (fun _ _ _ _ _ => pts_nil) (fun _ _ _ _ _ => (pe_ix (show IxR _ (rIxL K) from ix_list) (pv 5) pe_int (fun _ _ => rfl)))) pa_nil)))
      (pss_cons (ps_for (PassesOwn.never) rfl (pi_range1 (by rfl) B.range (pa_cons (pv 6) pa_nil)) (pg_name (i := 3) scLaw.nd rfl (.inl rfl))
      (pss_cons (ps_expr (pe_bm PySem.F.plainAttrs_list PySem.F.slot_list_append PySem.F.type_list_append mt_append (pv 1) (pa_cons (pe_ix ix_list (pe_ix ix_list (pv 7) (pv 3) (fun _ _ => rfl)) pe_int (fun _ _ => rfl)) pa_nil)))
       (pss_one (ps_expr (pe_bm PySem.F.plainAttrs_list PySem.F.slot_list_append PySem.F.type_list_append mt_append (pv 4) (pa_cons (pe_meth (pv 8) TS.cl m_rank G_srank hr3 b_srank .nil pass0 (pa_cons (pv 3) pa_nil)) pa_nil))))))
      (pss_cons (ps_for (PassesOwn.never) rfl (pi_range1 (by rfl) B.range (pa_cons (pe_callB call_len (by rfl) B.len PySem.boot_len (pa_cons (pv 1) pa_nil)) pa_nil)) (pg_name (i := 5) scLaw.nd rfl (.inl rfl))
      (pss_cons (ps_if (pt_not (pt_val (pe_call G_fields hr2 (by rfl) g_fields F_fields.kp b_fields .nil pass0 (pa_cons (pe_ix ix_list (pv 4) (pv 5) (fun _ _ => rfl)) (pa_cons (pe_ix ix_list (pv 1) (pv 5) (fun _ _ => rfl)) pa_nil)))))
       (pss_one (ps_ret pe_bl))
       pss_nil)
       (pss_one (ps_for (PassesOwn.never) rfl (pi_range1 (by rfl) B.range (pa_cons (pe_callB call_len (by rfl) B.len PySem.boot_len (pa_cons (pv 1) pa_nil)) pa_nil)) (pg_name (i := 9) scLaw.nd rfl (.inl rfl))
       (pss_one (ps_if (pt_not (pt_val (pe_call G_compared hr2 (by rfl) g_compared F_compared.kp b_compared .nil pass0 (pa_cons (pe_ix ix_list (pv 4) (pv 5) (fun _ _ => rfl)) (pa_cons (pe_ix ix_list (pv 4) (pv 9) (fun _ _ => rfl)) (pa_cons (pe_call G_order hr1 (by rfl) g_order F_order.kp b_order .nil pass0 (pa_cons (pe_ix ix_list (pv 1) (pv 5) (fun _ _ => rfl)) (pa_cons (pe_ix ix_list (pv 1) (pv 9) (fun _ _ => rfl)) pa_nil))) pa_nil))))))
        (pss_one (ps_ret pe_bl))
        pss_nil))))))
      (pss_one (ps_ret pe_bl))))))))))), ?_⟩
    refine ⟨by decide, fun L nL => ?_⟩
    have sL := same_new nL (o := .lst [])
    have hL0 : (upd H L (.lst [])) L = some (.lst []) := upd_same
    generalize upd H L (.lst []) = H1 at sL hL0 ⊢
    refine ⟨by decide, fun t0 nt0 => ?_⟩
    have st0 := same_new nt0 (o := .tup [])
    have ht0 : (upd H1 t0 (.tup [])) t0 = some (.tup []) := upd_same
    have hL1 := st0 _ _ hL0
    have s02 := sL.trans st0
    generalize upd H1 t0 (.tup []) = H2 at st0 ht0 hL1 s02 ⊢
    refine ⟨3, rfl, by decide, by decide, ?_⟩
    refine for_range (lo := 0) (n := 3) (fun n σ H' => ∃ (tb : Addr) (y3 : Option V) (us : List V) (ps : List P4), σ = [some (.ref a), some (.ref L), some (.ref tb), y3, none, none, none, none, none, none] ∧ Same H H' ∧ H' L = some (.lst us) ∧ us.length = n ∧ PAt H' us ps ∧ (H' tb = some (.tup []) ∨ ∃ p : P4, H' tb = some (.tup p.vs))) ⟨t0, none, [], [], rfl, s02, hL1, rfl, ⟨rfl, fun i v p h => by simp at h⟩, .inl ht0⟩ ?_ ?_
    · rintro n σ H' hn ⟨tb, y3, us, ps, rfl, sm, hL', hul, hP, htb⟩
      have e0 : (0 : Int) + (n : Int) = (n : Int) := by omega
      rw [e0]
      refine ⟨.ref a, rfl, .int (n : Int), rfl, a, ns, (n : Int), rfl, sm.seq hS, hlen, by omega, fun c => ⟨.ref tb, rfl, c, tb, rfl, htb, fun H3 t p s3 ht => ?_⟩⟩
      have hL3 := s3 _ _ hL'
      refine ⟨.ref L, rfl, .inl ⟨rfl, _, SqL.of hL3⟩, .ref t, rfl, L, _, _, rfl, rfl, hL3, small1000 (by omega), ?_⟩
      have nl : NL H3 (upd H3 L (.lst (us ++ [.ref t]))) := NL.set hL3
      exact ⟨t, _, us ++ [.ref t], ps ++ [p], rfl, same_at (sm.trans s3) nL, upd_same, by rw [List.length_append, hul]; rfl, (hP.nl ((NL.of s3).trans nl)).snoc (nl.tup ht), .inr ⟨p, nl.tup ht⟩⟩
    rintro σ H3 ⟨tb, y3, us, ps, rfl, s3, hL3, hul, hP3, _⟩
    -- the ranks
    refine ⟨.ref L, rfl, L, rfl, ⟨_, SqL.of hL3⟩, fun D nD => ?_⟩
    refine lc_list (K := K) (a := L) (xs := us) (fun i H' => ∃ rs : List V, H' D = some (.lst rs) ∧ rs.length = i ∧ RAt CR H' rs (ps.take i) ∧ Same H3 H')
      ⟨[], upd_same, rfl, ⟨rfl, fun i v p h => by simp at h⟩, same_new nD⟩ (fun i H' _ ⟨_, _, _, _, s⟩ => SqL.of (s _ _ hL3)) ?_ ?_
    · rintro i v H' hi ⟨rs, hD', hl, hR, sm⟩
      have hilt : i < us.length := (List.getElem?_eq_some_iff.mp hi).1
      have hpi : ps[i]? = some (ps[i]'(by rw [← hP3.1]; exact hilt)) := by simp
      obtain ⟨t, rfl, ht⟩ := hP3.2 i v _ hi hpi
      generalize ps[i]'(by rw [← hP3.1]; exact hilt) = p at hpi ht
      have ht' := sm _ _ ht
      refine ⟨rfl, .ref t, rfl, t, _, 0, .bl p.f, rfl, rfl, SqT.of ht', atI_nat (j := 0) rfl, .ref t, rfl, t, _, 1, .int p.m, rfl, rfl, SqT.of ht', atI_nat (j := 1) rfl, .ref t, rfl, t, _, 2, .int p.k, rfl, rfl, SqT.of ht', atI_nat (j := 2) rfl, .ref t, rfl, t, _, 3, .int p.i, rfl, rfl, SqT.of ht', atI_nat (j := 3) rfl, fun x dx nx ndx hne => ⟨x, dx, p, rfl, upd_same, fun H4 hk4 hA => ⟨rfl, ?_⟩⟩⟩
      have s4 := made_same nx ndx hk4
      have hD4 := s4 _ _ hD'
      have nl : NL H4 (upd H4 D (.lst (rs ++ [.ref x]))) := NL.set hD4
      refine ⟨rs, hD4, small1000 (by omega), rs ++ [.ref x], upd_same, by rw [List.length_append, hl]; rfl, ?_, same_at (sm.trans s4) nD⟩
      have e3 : ps.take (i + 1) = ps.take i ++ [p] := by rw [List.take_add_one, hpi]; rfl
      rw [e3]
      exact (hR.nl ((NL.of s4).trans nl)).snoc (hA.nl nl)
    rintro H4 ⟨rs, hD4, hrl, hR4, s34⟩
    rw [hP3.1, List.take_length] at hR4
    have hL4 := s34 _ _ hL3
    have hP4 := hP3.nl (NL.of s34)
    have s04 := s3.trans s34
    have hLD : L ≠ D := ne_of_none hL3 nD
    clear hL3 hP3 nD nt0 st0 sL s02 ht0 hL1 hL0
    -- how many rows
    refine ⟨.ref a, rfl, a, ns, 3, rfl, s04.seq hS, hlen, by decide, fun c3 => .inl ⟨c3, rfl, c3, 3, rfl, rfl, (show (3 : Int) ≠ 0 by decide), _, 2, rfl, rfl, ?_⟩⟩
    have f0 : 0 ≤ c3.fmod 3 := Int.fmod_nonneg_of_pos _ (by decide)
    have f1 : c3.fmod 3 < 3 := Int.fmod_lt_of_pos _ (by decide)
    obtain ⟨m, hm⟩ : ∃ m : Nat, c3.fmod 3 + 2 = (m : Int) := ⟨(c3.fmod 3 + 2).toNat, by omega⟩
    dsimp only
    rw [hm]
    have hm2 : 2 ≤ m := by omega
    have hm4 : m ≤ 4 := by omega
    clear hm f0 f1
    refine ⟨.int (m : Int), rfl, (m : Int), rfl, by omega, by omega, fun G nG => ?_⟩
    rw [Int.toNat_natCast]
    refine lc_range (lo := 0) (n := m) (fun i H' => ∃ (vs : List V) (zs : List Str) (rows : List RowV), H' G = some (.lst vs) ∧ vs.length = i ∧ DAt (fun d => d ≠ G ∧ H4 d = none) H' vs zs rows ∧ Same H4 H')
      ⟨[], [], [], upd_same, rfl, ⟨rfl, rfl, fun i r h => by simp at h⟩, same_new nG⟩ ?_ ?_
    · rintro i H' hi ⟨vs, zs, rows, hG', hl, hD, sm⟩
      have e0 : (0 : Int) + (i : Int) = (i : Int) := by omega
      refine ⟨rfl, .ref a, rfl, .int (0 + (i : Int)), rfl, 4, 0 + (i : Int), rfl, rfl, a, ns, _, rfl, (s04.trans sm).seq hS, hlen, (by omega), fun c => ⟨.int (0 + (i : Int)), rfl, c, i, (by rw [e0]; rfl), fun H5 d t z r s5 nd hd ht hrd hr4 => ?_⟩⟩
      have hG5 := s5 _ _ hG'
      have ndG : d ≠ G := Ne.symm (ne_of_none hG' nd)
      have nl : NL H5 (upd H5 G (.lst (vs ++ [.ref d]))) := NL.set hG5
      refine ⟨vs, hG5, small1000 (by omega), vs ++ [.ref d], zs ++ [z], rows ++ [r], upd_same, by rw [List.length_append, hl]; rfl, ?_, same_at (sm.trans s5) nG⟩
      refine hD.snoc (fun e y he hy => ?_) ((NL.of s5).trans nl) ⟨ndG, sm.free nd⟩ (by rw [upd_ne ndG]; exact hd) (nl.tup (by rw [hl]; exact ht)) hrd hr4
      · rw [upd_ne he.1]; exact s5 _ _ hy
    rintro H5 ⟨vs, zs, rows, hG5, hvl, hD5, s45⟩
    have hL5 := s45 _ _ hL4
    have hD5' := s45 _ _ hD4
    have hGL : G ≠ L := Ne.symm (ne_of_none hL4 nG)
    have hGD : G ≠ D := Ne.symm (ne_of_none hD4 nG)
    have hP5 := hP4.nl (NL.of s45)
    have hR5 := hR4.nl (NL.of s45)
    have hdne : ∀ d, (d ≠ G ∧ H4 d = none) → d ≠ L ∧ d ≠ D := fun d h => ⟨fun e => (by have h2 := h.2; rw [e, hL4] at h2; cases h2), fun e => (by have h2 := h.2; rw [e, hD4] at h2; cases h2)⟩
    obtain ⟨dl1, dl2, hall⟩ := hD5
    have hrows : rows.length = m := by rw [← dl1]; exact hvl
    clear nG
    -- the sheet
    refine ⟨.ref G, rfl, G, rfl, ⟨_, SqL.of hG5⟩, fun W nW => ?_⟩
    refine lc_list (K := K) (a := G) (xs := vs) (fun i H' => H' W = some (.lst ((zs.take i).map V.str)) ∧ Same H5 H') ⟨upd_same, same_new nW⟩ (fun i H' _ ⟨_, s⟩ => SqL.of (s _ _ hG5)) ?_ ?_
    · rintro i v H' hi ⟨hW, sm⟩
      have hilt : i < vs.length := (List.getElem?_eq_some_iff.mp hi).1
      obtain ⟨d, t, z, e1, e2, e3, e4, e5, e6, e7⟩ := hall i (rows[i]'(by omega)) (by simp)
      rw [hi] at e1; cases e1
      refine ⟨rfl, .ref d, rfl, d, _, 0, .str z, rfl, rfl, SqL.of (sm _ _ e4), atI_nat (j := 0) rfl, _, hW, small1000 (by rw [List.length_map, List.length_take]; omega), ?_, same_at sm nW⟩
      rw [upd_same, List.take_add_one, e2, map_snocS]; rfl
    rintro H6 ⟨hW, s56⟩
    rw [hvl, ← hrows, ← dl2, List.take_length] at hW
    refine fun x dx nx ndx hne => ⟨x, dx, W, zs, rows, rfl, upd_same, (by rw [upd_ne (ne_of_none hW nx), upd_ne (ne_of_none hW ndx)]; exact hW), by omega, dl2, fun i z r h1 h2 => ?_, fun H7 hk hSh => ⟨rfl, ?_⟩⟩
    · obtain ⟨d, t, z', e1, e2, e3, e4, e5, e6, e7⟩ := hall i r h2
      rw [h1] at e2; cases e2; exact e6
    have s57 := s56.trans (made_same nx ndx hk)
    obtain ⟨dy, fs, l, ws, hx7, k1, k2, k3, hl7, hRw7⟩ := hSh
    have hL7 := s57 _ _ hL5
    have hD7 := s57 _ _ hD5'
    have hG7 := s57 _ _ hG5
    have hP7 := hP5.nl (NL.of s57)
    have hR7 := hR5.nl (NL.of s57)
    have hall7 : ∀ (i : Nat) r, rows[i]? = some r → ∃ d t z, vs[i]? = some (.ref d) ∧ (d ≠ L ∧ d ≠ D) ∧ H7 d = some (.lst [.str z, .ref t]) ∧ H7 t = some (.tup (rkOf r i).vs) ∧ r.1.length ≤ 4 := fun i r hi => by
      obtain ⟨d, t, z, e1, e2, e3, e4, e5, e6, e7⟩ := hall i r hi
      exact ⟨d, t, z, e1, hdne d e3, s57 _ _ e4, s57 _ _ e5, e7⟩
    have hr0 : rows[0]? = some (rows[0]'(by omega)) := by simp
    have hlL : l ≠ L := fun e => by
      subst e
      rw [hL7] at hl7; cases hl7
      have h0 : us[0]? = some (us[0]'(by omega)) := by simp
      obtain ⟨t, p', nm, zp, d, g1, g2, g3⟩ := hRw7.2 0 _ _ h0 hr0
      obtain ⟨t', e1, e2⟩ := hP7.2 0 _ (ps[0]'(by rw [← hP7.1]; omega)) h0 (by simp)
      rw [g1] at e1; cases e1
      rw [g2] at e2; cases e2
    have hlD : l ≠ D := fun e => by
      subst e
      rw [hD7] at hl7; cases hl7
      have h0 : rs[0]? = some (rs[0]'(by omega)) := by simp
      obtain ⟨t, p', nm, zp, d, g1, g2, g3⟩ := hRw7.2 0 _ _ h0 hr0
      obtain ⟨t', e1, e2⟩ := hR7.2 0 _ (ps[0]'(by rw [← hR7.1]; omega)) h0 (by simp)
      rw [g1] at e1; cases e1
      obtain ⟨_, _, _, e3, _⟩ := e2.ex
      rw [g2] at e3; cases e3
    clear hk hP5 hR5 hP4 hR4 hL5 hD5' hG5 hall hL4 hD4 hW nW nx ndx s45 s34 s3 s56 s57 hdne
    refine ⟨.int (m : Int), rfl, (m : Int), rfl, by omega, by omega, ?_⟩
    rw [Int.toNat_natCast]
    refine for_range (lo := 0) (n := m) (fun n σ H' => ∃ (y3 : Option V) (us' rs' : List V) (ps' : List P4), σ = [some (.ref a), some (.ref L), some (.ref tb), y3, some (.ref D), none, some (.int (m : Int)), some (.ref G), some (.ref x), none] ∧ H' L = some (.lst us') ∧ H' D = some (.lst rs') ∧ us'.length = 3 + n ∧ PAt H' us' ps' ∧ RAt CR H' rs' ps' ∧ (∀ b o, b ≠ L → b ≠ D → H7 b = some o → H' b = some o)) ⟨_, us, rs, ps, rfl, hL7, hD7, by omega, hP7, hR7, fun b o _ _ h => h⟩ ?_ ?_
    · rintro n σ H' hn ⟨y3', us', rs', ps', rfl, hL8, hD8, hul8, hP8, hR8, kk⟩
      have e0 : (0 : Int) + (n : Int) = (n : Int) := by omega
      rw [e0]
      have hrn : rows[n]? = some (rows[n]'(by omega)) := by simp
      generalize rows[n]'(by omega) = r at hrn
      obtain ⟨d, t, z, e1, ⟨e2, e2'⟩, e3, e4, e5⟩ := hall7 n r hrn
      have hx8 := kk _ _ (fun e => by subst e; rw [hL7] at hx7; cases hx7) (fun e => by subst e; rw [hD7] at hx7; cases hx7) hx7
      have ht8 := kk _ _ (fun e => by subst e; rw [hL7] at e4; cases e4) (fun e => by subst e; rw [hD7] at e4; cases e4) e4
      have nl7 : NL H7 H' := fun b o ho hb => kk b o (fun e => by subst e; rw [hL7] at hb; cases hb; exact ho _ rfl) (fun e => by subst e; rw [hD7] at hb; cases hb; exact ho _ rfl) hb
      refine ⟨.ref L, rfl, .inl ⟨rfl, _, SqL.of hL8⟩, .ref G, rfl, .int (n : Int), rfl, G, _, (n : Int), .ref d, rfl, rfl, SqL.of (kk _ _ hGL hGD hG7), atI_nat e1, d, _, 1, .ref t, rfl, rfl, SqL.of (kk _ _ e2 e2' e3), atI_nat (j := 1) rfl, L, _, _, rfl, rfl, hL8, small1000 (by omega), ?_⟩
      have nl8 : NL H' (upd H' L (.lst (us' ++ [.ref t]))) := NL.set hL8
      have hL9 : (upd H' L (.lst (us' ++ [.ref t]))) L = some (.lst (us' ++ [.ref t])) := upd_same
      have hD9 : (upd H' L (.lst (us' ++ [.ref t]))) D = some (.lst rs') := by rw [upd_ne (Ne.symm hLD)]; exact hD8
      have hl9 : (upd H' L (.lst (us' ++ [.ref t]))) l = some (.lst ws) := by rw [upd_ne hlL]; exact kk _ _ hlL hlD hl7
      have k89 : ∀ b o, b ≠ L → b ≠ D → H7 b = some o → (upd H' L (.lst (us' ++ [.ref t]))) b = some o := fun b o h1 h2 h => by rw [upd_ne h1]; exact kk b o h1 h2 h
      generalize upd H' L (.lst (us' ++ [.ref t])) = H9 at nl8 hL9 hD9 hl9 k89 ⊢
      refine ⟨.ref D, rfl, .inl ⟨rfl, _, SqL.of hD9⟩, .ref x, rfl, x, dy, fs, rfl, nl8.ins hx8, k3, .int (n : Int), rfl, x, n, rows, r, rfl, ⟨dy, fs, l, ws, nl8.ins hx8, k1, k2, k3, hl9, hRw7.nl (nl7.trans nl8)⟩, hrn, by omega, e5, fun HA qa sA hqa => ?_⟩
      have hDA := sA _ _ hD9
      refine ⟨D, _, _, rfl, rfl, hDA, small1000 (by rw [hR8.1, ← hP8.1]; omega), ?_⟩
      have nlA : NL HA (upd HA D (.lst (rs' ++ [.ref qa]))) := NL.set hDA
      have nlB := nl8.trans ((NL.of sA).trans nlA)
      exact ⟨_, us' ++ [.ref t], rs' ++ [.ref qa], ps' ++ [rkOf r n], rfl, by rw [upd_ne hLD]; exact sA _ _ hL9, upd_same, by rw [List.length_append, hul8]; rfl, (hP8.nl nlB).snoc (nlB.tup ht8), (hR8.nl nlB).snoc (hqa.nl nlA), fun b o h1 h2 h => by rw [upd_ne h2]; exact sA _ _ (k89 b o h1 h2 h)⟩
    rintro σ H8 ⟨y3', us', rs', ps', rfl, hL8, hD8, hul8, hP8, hR8, _⟩
    have hrl8 : rs'.length = us'.length := by rw [hR8.1, hP8.1]
    clear hall7 hP7 hR7 hL7 hD7 hG7 hx7 hl7 hRw7
    refine ⟨.ref L, rfl, .ref L, us'.length, rfl, .inl ⟨_, SqL.of hL8, rfl⟩, (us'.length : Int), rfl, by omega, by omega, ?_⟩
    rw [Int.toNat_natCast]
    refine for_range (lo := 0) (n := us'.length) (fun n σ H' => ∃ (y5 y9 : Option V), σ = [some (.ref a), some (.ref L), some (.ref tb), y3', some (.ref D), y5, some (.int (m : Int)), some (.ref G), some (.ref x), y9] ∧ Same H8 H') ⟨none, none, rfl, Same.refl _⟩ ?_ ?_
    · rintro n σ H' hn ⟨y5, y9, rfl, sm⟩
      have e0 : (0 : Int) + (n : Int) = (n : Int) := by omega
      rw [e0]
      have hu : us'[n]? = some us'[n] := by simp
      have hr' : rs'[n]? = some (rs'[n]'(by omega)) := by simp
      have hp' : ps'[n]? = some (ps'[n]'(by rw [← hP8.1]; exact hn)) := by simp
      obtain ⟨t, et, ht⟩ := hP8.2 n _ _ hu hp'
      obtain ⟨rr, er, hrr⟩ := hR8.2 n _ _ hr' hp'
      generalize ps'[n]'(by rw [← hP8.1]; exact hn) = p at hp' ht hrr
      rw [et] at hu
      rw [er] at hr'
      refine ⟨.ref D, rfl, .int (n : Int), rfl, D, _, (n : Int), .ref rr, rfl, rfl, SqL.of (sm _ _ hD8), atI_nat hr', .ref L, rfl, .int (n : Int), rfl, L, _, (n : Int), .ref t, rfl, rfl, SqL.of (sm _ _ hL8), atI_nat hu, rr, t, p, rfl, hrr.same sm, sm _ _ ht, fun H9 s9 => ⟨_, rfl, iteF ?_⟩⟩
      have s89 := sm.trans s9
      refine ⟨.ref L, rfl, .ref L, us'.length, rfl, .inl ⟨_, SqL.of (s89 _ _ hL8), rfl⟩, (us'.length : Int), rfl, by omega, by omega, ?_⟩
      rw [Int.toNat_natCast]
      refine for_range (lo := 0) (n := us'.length) (fun k σ H' => ∃ (y9 : Option V), σ = [some (.ref a), some (.ref L), some (.ref tb), y3', some (.ref D), some (.int (n : Int)), some (.int (m : Int)), some (.ref G), some (.ref x), y9] ∧ Same H8 H') ⟨y9, rfl, s89⟩ ?_ ?_
      · rintro k σ HB hk ⟨y9, rfl, sB⟩
        have e0 : (0 : Int) + (k : Int) = (k : Int) := by omega
        rw [e0]
        have hu2 : us'[k]? = some us'[k] := by simp
        have hr2' : rs'[k]? = some (rs'[k]'(by omega)) := by simp
        have hp2 : ps'[k]? = some (ps'[k]'(by rw [← hP8.1]; exact hk)) := by simp
        obtain ⟨t2, et2, ht2⟩ := hP8.2 k _ _ hu2 hp2
        obtain ⟨rr2, er2, hrr2⟩ := hR8.2 k _ _ hr2' hp2
        generalize ps'[k]'(by rw [← hP8.1]; exact hk) = p2 at hp2 ht2 hrr2
        rw [et2] at hu2
        rw [er2] at hr2'
        have hLB := sB _ _ hL8
        have hDB := sB _ _ hD8
        refine ⟨.ref D, rfl, .int (n : Int), rfl, D, _, (n : Int), .ref rr, rfl, rfl, SqL.of hDB, atI_nat hr', .ref D, rfl, .int (k : Int), rfl, D, _, (k : Int), .ref rr2, rfl, rfl, SqL.of hDB, atI_nat hr2', ?_⟩
        refine ⟨.ref L, rfl, .int (n : Int), rfl, L, _, (n : Int), .ref t, rfl, rfl, SqL.of hLB, atI_nat hu, .ref L, rfl, .int (k : Int), rfl, L, _, (k : Int), .ref t2, rfl, rfl, SqL.of hLB, atI_nat hu2, t, t2, p, p2, rfl, SqT.of (sB _ _ ht), SqT.of (sB _ _ ht2), ?_⟩
        exact ⟨rr, rr2, p, p2, rfl, hrr.same sB, hrr2.same sB, fun HC sC => ⟨_, rfl, iteF ⟨_, rfl, sB.trans sC⟩⟩⟩
      · rintro σ HB ⟨y9, rfl, sB⟩
        exact ⟨_, _, rfl, sB⟩
    · rintro σ HB ⟨y5, y9, rfl, sB⟩
      exact q _
end
end K11

set_option maxRecDepth 100000
set_option maxHeartbeats 4000000
namespace K11
open PySem PySem.Spec PyProof.Rows L2
theorem all_mk {l : PySem.W.OpenLaw} {w : World} {K : PySem.W.Frag} {h : Heap} {mg : Str → Option Value} {fa CP CR CS C RD f1 f2 f3 f4 f5 f6 f7 f8 f9 f10 f11 f12 f13 f14 f15 f16 f17 f18 f19 f20 f21 f22 f23 f24 f25 f26 f27 f28 f29 f30 : Addr} (X : K.In h) (G : h.Ns mainGlobals mg) (hfa : mg "law" = some (.ref fa))
    {tk0 tk1 tk2 tk3 tk4 tk5 tk6 tk7 tk8 : Tok}
    {od1 an1 od2 an2 od3 an3 od4 an4 od5 an5 od6 an6 od7 an7 od8 an8 od9 an9 od10 an10 od11 an11 od12 an12 od13 an13 od14 an14 od15 an15 od16 an16 od17 an17 od18 an18 od19 an19 od20 an20 od21 an21 od22 an22 od23 an23 od24 an24 od25 an25 od26 an26 od27 an27 od28 an28 od29 an29 od30 an30 : Option Addr} {sl1 sl2 sl3 sl4 sl5 sl6 sl7 sl8 sl9 sl10 sl11 sl12 sl13 sl14 sl15 sl16 sl17 sl18 sl19 sl20 sl21 sl22 sl23 sl24 sl25 sl26 sl27 sl28 sl29 sl30 : Array (Option Value)}
    {oc1 kV1 dc1 pm1 cd1 ct1 oc2 kV2 dc2 pm2 cd2 ct2 oc3 kV3 dc3 pm3 cd3 ct3 oc4 kV4 dc4 pm4 cd4 ct4 oc5 kV5 dc5 pm5 cd5 ct5 oc6 kV6 dc6 pm6 cd6 ct6 oc7 kV7 dc7 pm7 cd7 ct7 oc8 kV8 dc8 pm8 cd8 ct8 oc9 kV9 dc9 pm9 cd9 ct9 oc10 kV10 dc10 pm10 cd10 ct10 oc11 kV11 dc11 pm11 cd11 ct11 oc12 kV12 dc12 pm12 cd12 ct12 oc13 kV13 dc13 pm13 cd13 ct13 oc14 kV14 dc14 pm14 cd14 ct14 oc15 kV15 dc15 pm15 cd15 ct15 oc16 kV16 dc16 pm16 cd16 ct16 oc17 kV17 dc17 pm17 cd17 ct17 oc18 kV18 dc18 pm18 cd18 ct18 oc19 kV19 dc19 pm19 cd19 ct19 oc20 kV20 dc20 pm20 cd20 ct20 oc21 kV21 dc21 pm21 cd21 ct21 oc22 kV22 dc22 pm22 cd22 ct22 oc23 kV23 dc23 pm23 cd23 ct23 oc24 kV24 dc24 pm24 cd24 ct24 oc25 kV25 dc25 pm25 cd25 ct25 oc26 kV26 dc26 pm26 cd26 ct26 oc27 kV27 dc27 pm27 cd27 ct27 oc28 kV28 dc28 pm28 cd28 ct28 oc29 kV29 dc29 pm29 cd29 ct29 oc30 kV30 dc30 pm30 cd30 ct30 : Value}
    {nm_C q_C : Str} {N_C : Addr} {bs_C bm_C : List Value} {sn_C : List Str} {sub_C : List Value} {ab_C : Bool} {col_C : Option Bool} {dd_C : Option Addr} {m0_C m1_C m2_C m3_C m5_C : Option Value}
    {pp18 : Addr} {pl18 : List Value}
    {pp19 : Addr} {pl19 : List Value}
    {rges : Array DictEntry} {rgn : Nat}
    {rt0 : Addr} {ro0 : Option Addr} {rn0 : Nat} {rs0 : Array (Option Value)} {ru0 rv0 : Tok}
    {rt1 : Addr} {ro1 : Option Addr} {rn1 : Nat} {rs1 : Array (Option Value)} {ru1 rv1 : Tok}
    {rt2 : Addr} {ro2 : Option Addr} {rn2 : Nat} {rs2 : Array (Option Value)} {ru2 rv2 : Tok}
    {rt3 : Addr} {ro3 : Option Addr} {rn3 : Nat} {rs3 : Array (Option Value)} {ru3 rv3 : Tok}
    {rt4 : Addr} {ro4 : Option Addr} {rn4 : Nat} {rs4 : Array (Option Value)} {ru4 rv4 : Tok}
    {rt5 : Addr} {ro5 : Option Addr} {rn5 : Nat} {rs5 : Array (Option Value)} {ru5 rv5 : Tok}
    (c_LONGEST_NAME : PySem.W.nsIn K mainGlobals "LONGEST_NAME" = some (some (.int 8 tk0)))
    (c_MOST_TESTS : PySem.W.nsIn K mainGlobals "MOST_TESTS" = some (some (.int 4 tk1)))
    (c_ANY_KIND : PySem.W.nsIn K mainGlobals "ANY_KIND" = some (some (.str (Str.ofString "*") tk2)))
    (c_INSIDE : PySem.W.nsIn K mainGlobals "INSIDE" = some (some (.str (Str.ofString "") tk3)))
    (c_CHILD : PySem.W.nsIn K mainGlobals "CHILD" = some (some (.str (Str.ofString ">") tk4)))
    (c_BEHIND : PySem.W.nsIn K mainGlobals "BEHIND" = some (some (.str (Str.ofString "+") tk5)))
    (c_MOST_ROWS : PySem.W.nsIn K mainGlobals "MOST_ROWS" = some (some (.int 12 tk6)))
    (c_DIGITS : PySem.W.nsIn K mainGlobals "DIGITS" = some (some (.str (Str.ofString "0123456789") tk7)))
    (c_FIRM : PySem.W.nsIn K mainGlobals "FIRM" = some (some (.str (Str.ofString "firm") tk8)))
    (aCP : PySem.W.nsIn K mainGlobals "Pattern" = some (some (.ref CP)))
    (pgCP : PySem.W.plainGet K CP Str.empty = true)
    (hdCP : PySem.W.hasDictIn K CP = true)
    (poCP : PySem.W.plainOver K CP = true)
    (saCP : PySem.W.findIn K (.ref CP) "__setattr__" = some (some (.builtin "object.__setattr__")))
    (mkCP : PySem.W.makesIn K CP = true)
    (kcCP : PySem.W.keepIn K (.ref CP) = true)
    (nCP_tests : PySem.W.findIn K (.ref CP) "tests" = some none)
    (nCP_links : PySem.W.findIn K (.ref CP) "links" = some none)
    (nCP_text : PySem.W.findIn K (.ref CP) "_text" = some none)
    (aCR : PySem.W.nsIn K mainGlobals "Rank" = some (some (.ref CR)))
    (pgCR : PySem.W.plainGet K CR Str.empty = true)
    (hdCR : PySem.W.hasDictIn K CR = true)
    (poCR : PySem.W.plainOver K CR = true)
    (saCR : PySem.W.findIn K (.ref CR) "__setattr__" = some (some (.builtin "object.__setattr__")))
    (mkCR : PySem.W.makesIn K CR = true)
    (kcCR : PySem.W.keepIn K (.ref CR) = true)
    (nCR_firm : PySem.W.findIn K (.ref CR) "firm" = some none)
    (nCR_marks : PySem.W.findIn K (.ref CR) "marks" = some none)
    (nCR_kinds : PySem.W.findIn K (.ref CR) "kinds" = some none)
    (nCR_index : PySem.W.findIn K (.ref CR) "index" = some none)
    (nCR_parts : PySem.W.findIn K (.ref CR) "parts" = some none)
    (aCS : PySem.W.nsIn K mainGlobals "Sheet" = some (some (.ref CS)))
    (pgCS : PySem.W.plainGet K CS Str.empty = true)
    (hdCS : PySem.W.hasDictIn K CS = true)
    (poCS : PySem.W.plainOver K CS = true)
    (saCS : PySem.W.findIn K (.ref CS) "__setattr__" = some (some (.builtin "object.__setattr__")))
    (mkCS : PySem.W.makesIn K CS = true)
    (kcCS : PySem.W.keepIn K (.ref CS) = true)
    (nCS_lines : PySem.W.findIn K (.ref CS) "_lines" = some none)
    (nCS_rows : PySem.W.findIn K (.ref CS) "_rows" = some none)
    (aRD : PySem.W.nsIn K mainGlobals "RANGES" = some (some (.ref RD)))
    (aC : PySem.W.nsIn K mainGlobals "BadPattern" = some (some (.ref C)))
    (x_C : K.lookup C = some (excClassObj nm_C q_C C N_C bs_C bm_C true sn_C sub_C ab_C col_C dd_C m0_C m1_C m2_C m3_C m5_C "ValueError.__new__"))
    (xb_C : PySem.HandSPX.refsVE bm_C = true)
    (sa_C : PySem.W.findIn K (.ref C) "__setattr__" = some (some (.builtin "object.__setattr__")))
    (xe_C : PySem.W.subIn K (.ref C) (.type "BaseException") = some true)
    (xt_C : PySem.W.typeIn K (.ref C) = some (.type "type"))
    (xk_C : PySem.W.keepIn K (.ref C) = true)
    (f_C_text : PySem.W.findIn K (.ref C) "text" = some none)
    (hg_C : PySem.W.findIn K (.ref C) "__getattribute__" = some (some (.builtin "BaseException.__getattribute__")))
    (hk_C : PySem.W.findIn K (.ref C) "__getattr__" = some none)
    (hd_C : PySem.W.hasDictIn K C = true)
    (ha_C : PySem.W.findIn K (.ref C) "__class__" = some (some (.builtin "object.__class__")))
    (hn_C : PySem.W.specialIn K (.builtin "object.__class__") "__get__" = some (some (.builtin "getset_descriptor.__get__")))
    (ht_C : PySem.W.takesIn K (.builtin "object.__class__") = some true)
    (hm_C : PySem.W.mroIn K C (.type "object") = some true)
    (ls_C : PySem.W.subIn K (.ref C) (.ref C) = some true)
    (ih_ha : PySem.W.findIn K (.ref CR) "__class__" = some (some (.builtin "object.__class__")))
    (ih_hn : PySem.W.specialIn K (.builtin "object.__class__") "__get__" = some (some (.builtin "getset_descriptor.__get__")))
    (ih_ht : PySem.W.takesIn K (.builtin "object.__class__") = some true)
    (ih_hm : PySem.W.mroIn K CR (.type "object") = some true)
    (ih_ks : PySem.W.kitOne K (.ref CR) (.ref CR) = some true)
    (ih_kt : PySem.W.kitOne K (.type "tuple") (.ref CR) = some false)
    (ih_sb : PySem.W.subIn K (.ref CR) (.type "tuple") = some false)
    (ih_ni : PySem.W.nsIn K mainGlobals "NotImplemented" = some none)
    (rg_at : K.lookup RD = some ⟨.type "dict", none, .dict rges rgn, #[]⟩)
    (rg_lit : PySem.W.KeysLit w.params rges.toList)
    (rg_low : (RD == sysModules) = false)
    (rk0 : PySem.W.nsIn K RD "face" = some (some (.ref rt0)))
    (rl0 : K.lookup rt0 = some ⟨.type "tuple", ro0, .seq #[.int 0 ru0, .int 2 rv0] rn0, rs0⟩)
    (rk1 : PySem.W.nsIn K RD "size" = some (some (.ref rt1)))
    (rl1 : K.lookup rt1 = some ⟨.type "tuple", ro1, .seq #[.int 1 ru1, .int 3 rv1] rn1, rs1⟩)
    (rk2 : PySem.W.nsIn K RD "wide" = some (some (.ref rt2)))
    (rl2 : K.lookup rt2 = some ⟨.type "tuple", ro2, .seq #[.int 0 ru2, .int 3 rv2] rn2, rs2⟩)
    (rk3 : PySem.W.nsIn K RD "drop" = some (some (.ref rt3)))
    (rl3 : K.lookup rt3 = some ⟨.type "tuple", ro3, .seq #[.int 0 ru3, .int 3 rv3] rn3, rs3⟩)
    (rk4 : PySem.W.nsIn K RD "indent" = some (some (.ref rt4)))
    (rl4 : K.lookup rt4 = some ⟨.type "tuple", ro4, .seq #[.int 0 ru4, .int 9 rv4] rn4, rs4⟩)
    (rk5 : PySem.W.nsIn K RD "before" = some (some (.ref rt5)))
    (rl5 : K.lookup rt5 = some ⟨.type "tuple", ro5, .seq #[.int 0 ru5, .int 9 rv5] rn5, rs5⟩)
    (a1 : PySem.W.nsIn K mainGlobals "is_letter" = some (some (.ref f1)))
    (l1 : K.lookup f1 = some ⟨oc1, od1, .func (PySem.W.fnOf "is_letter" "is_letter" (defArgs sLetter) (defBody sLetter) (defScope sLetter) .none kV1 dc1 pm1 an1 cd1 ct1), sl1⟩)
    (c1 : PySem.W.codeIn K cd1 "is_letter" = true)
    (k1 : PySem.W.keepIn K (.ref f1) = true)
    (a2 : PySem.W.nsIn K mainGlobals "name_end" = some (some (.ref f2)))
    (l2 : K.lookup f2 = some ⟨oc2, od2, .func (PySem.W.fnOf "name_end" "name_end" (defArgs sNameEnd) (defBody sNameEnd) (defScope sNameEnd) .none kV2 dc2 pm2 an2 cd2 ct2), sl2⟩)
    (c2 : PySem.W.codeIn K cd2 "name_end" = true)
    (k2 : PySem.W.keepIn K (.ref f2) = true)
    (a3 : PySem.W.nsIn K mainGlobals "is_name" = some (some (.ref f3)))
    (l3 : K.lookup f3 = some ⟨oc3, od3, .func (PySem.W.fnOf "is_name" "is_name" (defArgs sIsName) (defBody sIsName) (defScope sIsName) .none kV3 dc3 pm3 an3 cd3 ct3), sl3⟩)
    (c3 : PySem.W.codeIn K cd3 "is_name" = true)
    (k3 : PySem.W.keepIn K (.ref f3) = true)
    (a4 : PySem.W.nsIn K mainGlobals "_read_test" = some (some (.ref f4)))
    (l4 : K.lookup f4 = some ⟨oc4, od4, .func (PySem.W.fnOf "_read_test" "_read_test" (defArgs sTest) (defBody sTest) (defScope sTest) .none kV4 dc4 pm4 an4 cd4 ct4), sl4⟩)
    (c4 : PySem.W.codeIn K cd4 "_read_test" = true)
    (k4 : PySem.W.keepIn K (.ref f4) = true)
    (a5 : PySem.W.nsIn K mainGlobals "_read_tests" = some (some (.ref f5)))
    (l5 : K.lookup f5 = some ⟨oc5, od5, .func (PySem.W.fnOf "_read_tests" "_read_tests" (defArgs sTests) (defBody sTests) (defScope sTests) .none kV5 dc5 pm5 an5 cd5 ct5), sl5⟩)
    (c5 : PySem.W.codeIn K cd5 "_read_tests" = true)
    (k5 : PySem.W.keepIn K (.ref f5) = true)
    (a6 : PySem.W.nsIn K mainGlobals "_read_value" = some (some (.ref f6)))
    (l6 : K.lookup f6 = some ⟨oc6, od6, .func (PySem.W.fnOf "_read_value" "_read_value" (defArgs sValue) (defBody sValue) (defScope sValue) .none kV6 dc6 pm6 an6 cd6 ct6), sl6⟩)
    (c6 : PySem.W.codeIn K cd6 "_read_value" = true)
    (k6 : PySem.W.keepIn K (.ref f6) = true)
    (a7 : PySem.W.nsIn K mainGlobals "_read_row" = some (some (.ref f7)))
    (l7 : K.lookup f7 = some ⟨oc7, od7, .func (PySem.W.fnOf "_read_row" "_read_row" (defArgs sRRow) (defBody sRRow) (defScope sRRow) .none kV7 dc7 pm7 an7 cd7 ct7), sl7⟩)
    (c7 : PySem.W.codeIn K cd7 "_read_row" = true)
    (k7 : PySem.W.keepIn K (.ref f7) = true)
    (a8 : PySem.W.nsIn K mainGlobals "_law_cell" = some (some (.ref f8)))
    (l8 : K.lookup f8 = some ⟨oc8, od8, .func (PySem.W.fnOf "_law_cell" "_law_cell" (defArgs sCell) (defBody sCell) (defScope sCell) .none kV8 dc8 pm8 an8 cd8 ct8), sl8⟩)
    (c8 : PySem.W.codeIn K cd8 "_law_cell" = true)
    (k8 : PySem.W.keepIn K (.ref f8) = true)
    (a9 : PySem.W.nsIn K mainGlobals "_law_row" = some (some (.ref f9)))
    (l9 : K.lookup f9 = some ⟨oc9, od9, .func (PySem.W.fnOf "_law_row" "_law_row" (defArgs sRow) (defBody sRow) (defScope sRow) .none kV9 dc9 pm9 an9 cd9 ct9), sl9⟩)
    (c9 : PySem.W.codeIn K cd9 "_law_row" = true)
    (k9 : PySem.W.keepIn K (.ref f9) = true)
    (a10 : PySem.W.nsIn K mainGlobals "_law_number" = some (some (.ref f10)))
    (l10 : K.lookup f10 = some ⟨oc10, od10, .func (PySem.W.fnOf "_law_number" "_law_number" (defArgs sNumber) (defBody sNumber) (defScope sNumber) .none kV10 dc10 pm10 an10 cd10 ct10), sl10⟩)
    (c10 : PySem.W.codeIn K cd10 "_law_number" = true)
    (k10 : PySem.W.keepIn K (.ref f10) = true)
    (a11 : PySem.W.nsIn K mainGlobals "_law_parts" = some (some (.ref f11)))
    (l11 : K.lookup f11 = some ⟨oc11, od11, .func (PySem.W.fnOf "_law_parts" "_law_parts" (defArgs sParts) (defBody sParts) (defScope sParts) .none kV11 dc11 pm11 an11 cd11 ct11), sl11⟩)
    (c11 : PySem.W.codeIn K cd11 "_law_parts" = true)
    (k11 : PySem.W.keepIn K (.ref f11) = true)
    (a12 : PySem.W.nsIn K mainGlobals "_law_line" = some (some (.ref f12)))
    (l12 : K.lookup f12 = some ⟨oc12, od12, .func (PySem.W.fnOf "_law_line" "_law_line" (defArgs sLine) (defBody sLine) (defScope sLine) .none kV12 dc12 pm12 an12 cd12 ct12), sl12⟩)
    (c12 : PySem.W.codeIn K cd12 "_law_line" = true)
    (k12 : PySem.W.keepIn K (.ref f12) = true)
    (a13 : PySem.W.nsIn K mainGlobals "_law_order" = some (some (.ref f13)))
    (l13 : K.lookup f13 = some ⟨oc13, od13, .func (PySem.W.fnOf "_law_order" "_law_order" (defArgs sOrder) (defBody sOrder) (defScope sOrder) .none kV13 dc13 pm13 an13 cd13 ct13), sl13⟩)
    (c13 : PySem.W.codeIn K cd13 "_law_order" = true)
    (k13 : PySem.W.keepIn K (.ref f13) = true)
    (a14 : PySem.W.nsIn K mainGlobals "_law_fields" = some (some (.ref f14)))
    (l14 : K.lookup f14 = some ⟨oc14, od14, .func (PySem.W.fnOf "_law_fields" "_law_fields" (defArgs sFields) (defBody sFields) (defScope sFields) .none kV14 dc14 pm14 an14 cd14 ct14), sl14⟩)
    (c14 : PySem.W.codeIn K cd14 "_law_fields" = true)
    (k14 : PySem.W.keepIn K (.ref f14) = true)
    (a15 : PySem.W.nsIn K mainGlobals "_law_compared" = some (some (.ref f15)))
    (l15 : K.lookup f15 = some ⟨oc15, od15, .func (PySem.W.fnOf "_law_compared" "_law_compared" (defArgs sCompared) (defBody sCompared) (defScope sCompared) .none kV15 dc15 pm15 an15 cd15 ct15), sl15⟩)
    (c15 : PySem.W.codeIn K cd15 "_law_compared" = true)
    (k15 : PySem.W.keepIn K (.ref f15) = true)
    (a16 : PySem.W.nsIn K mainGlobals "law" = some (some (.ref f16)))
    (l16 : K.lookup f16 = some ⟨oc16, od16, .func (PySem.W.fnOf "law" "law" (defArgs sLaw) (defBody sLaw) (defScope sLaw) .none kV16 dc16 pm16 an16 cd16 ct16), sl16⟩)
    (c16 : PySem.W.codeIn K cd16 "law" = true)
    (k16 : PySem.W.keepIn K (.ref f16) = true)
    (a17 : PySem.W.findIn K (.ref CP) "__init__" = some (some (.ref f17)))
    (i17 : PySem.W.isFn K (.ref f17) = true)
    (l17 : K.lookup f17 = some ⟨oc17, od17, .func (PySem.W.fnOf "__init__" "Pattern.__init__" (defArgs sPInit) (defBody sPInit) (defScope sPInit) .none kV17 dc17 pm17 an17 cd17 ct17), sl17⟩)
    (c17 : PySem.W.codeIn K cd17 "Pattern.__init__" = true)
    (k17 : PySem.W.keepIn K (.ref f17) = true)
    (a18 : PySem.W.findIn K (.ref CP) "asked" = some (some (.ref pp18)))
    (pg18 : PySem.W.specialIn K (.ref pp18) "__get__" = some (some (.builtin "property.__get__")))
    (pt18 : PySem.W.takesIn K (.ref pp18) = some true)
    (pr18 : PySem.W.recIn K pp18 "property" = some (.ref f18 :: pl18))
    (l18 : K.lookup f18 = some ⟨oc18, od18, .func (PySem.W.fnOf "asked" "Pattern.asked" (defArgs sAsked) (defBody sAsked) (defScope sAsked) .none kV18 dc18 pm18 an18 cd18 ct18), sl18⟩)
    (c18 : PySem.W.codeIn K cd18 "Pattern.asked" = true)
    (k18 : PySem.W.keepIn K (.ref f18) = true)
    (a19 : PySem.W.findIn K (.ref CP) "named" = some (some (.ref pp19)))
    (pg19 : PySem.W.specialIn K (.ref pp19) "__get__" = some (some (.builtin "property.__get__")))
    (pt19 : PySem.W.takesIn K (.ref pp19) = some true)
    (pr19 : PySem.W.recIn K pp19 "property" = some (.ref f19 :: pl19))
    (l19 : K.lookup f19 = some ⟨oc19, od19, .func (PySem.W.fnOf "named" "Pattern.named" (defArgs sNamed) (defBody sNamed) (defScope sNamed) .none kV19 dc19 pm19 an19 cd19 ct19), sl19⟩)
    (c19 : PySem.W.codeIn K cd19 "Pattern.named" = true)
    (k19 : PySem.W.keepIn K (.ref f19) = true)
    (a20 : PySem.W.findIn K (.ref CR) "__init__" = some (some (.ref f20)))
    (i20 : PySem.W.isFn K (.ref f20) = true)
    (l20 : K.lookup f20 = some ⟨oc20, od20, .func (PySem.W.fnOf "__init__" "Rank.__init__" (defArgs sRInit) (defBody sRInit) (defScope sRInit) .none kV20 dc20 pm20 an20 cd20 ct20), sl20⟩)
    (c20 : PySem.W.codeIn K cd20 "Rank.__init__" = true)
    (k20 : PySem.W.keepIn K (.ref f20) = true)
    (a21 : PySem.W.findIn K (.ref CR) "__eq__" = some (some (.ref f21)))
    (i21 : PySem.W.isFn K (.ref f21) = true)
    (l21 : K.lookup f21 = some ⟨oc21, od21, .func (PySem.W.fnOf "__eq__" "Rank.__eq__" (defArgs sREq) (defBody sREq) (defScope sREq) .none kV21 dc21 pm21 an21 cd21 ct21), sl21⟩)
    (c21 : PySem.W.codeIn K cd21 "Rank.__eq__" = true)
    (k21 : PySem.W.keepIn K (.ref f21) = true)
    (a22 : PySem.W.findIn K (.ref CR) "__ne__" = some (some (.ref f22)))
    (i22 : PySem.W.isFn K (.ref f22) = true)
    (l22 : K.lookup f22 = some ⟨oc22, od22, .func (PySem.W.fnOf "__ne__" "Rank.__ne__" (defArgs sRNe) (defBody sRNe) (defScope sRNe) .none kV22 dc22 pm22 an22 cd22 ct22), sl22⟩)
    (c22 : PySem.W.codeIn K cd22 "Rank.__ne__" = true)
    (k22 : PySem.W.keepIn K (.ref f22) = true)
    (a23 : PySem.W.findIn K (.ref CR) "__lt__" = some (some (.ref f23)))
    (i23 : PySem.W.isFn K (.ref f23) = true)
    (l23 : K.lookup f23 = some ⟨oc23, od23, .func (PySem.W.fnOf "__lt__" "Rank.__lt__" (defArgs sRLt) (defBody sRLt) (defScope sRLt) .none kV23 dc23 pm23 an23 cd23 ct23), sl23⟩)
    (c23 : PySem.W.codeIn K cd23 "Rank.__lt__" = true)
    (k23 : PySem.W.keepIn K (.ref f23) = true)
    (a24 : PySem.W.findIn K (.ref CR) "__le__" = some (some (.ref f24)))
    (i24 : PySem.W.isFn K (.ref f24) = true)
    (l24 : K.lookup f24 = some ⟨oc24, od24, .func (PySem.W.fnOf "__le__" "Rank.__le__" (defArgs sRLe) (defBody sRLe) (defScope sRLe) .none kV24 dc24 pm24 an24 cd24 ct24), sl24⟩)
    (c24 : PySem.W.codeIn K cd24 "Rank.__le__" = true)
    (k24 : PySem.W.keepIn K (.ref f24) = true)
    (a25 : PySem.W.findIn K (.ref CR) "__gt__" = some (some (.ref f25)))
    (i25 : PySem.W.isFn K (.ref f25) = true)
    (l25 : K.lookup f25 = some ⟨oc25, od25, .func (PySem.W.fnOf "__gt__" "Rank.__gt__" (defArgs sRGt) (defBody sRGt) (defScope sRGt) .none kV25 dc25 pm25 an25 cd25 ct25), sl25⟩)
    (c25 : PySem.W.codeIn K cd25 "Rank.__gt__" = true)
    (k25 : PySem.W.keepIn K (.ref f25) = true)
    (a26 : PySem.W.findIn K (.ref CR) "__ge__" = some (some (.ref f26)))
    (i26 : PySem.W.isFn K (.ref f26) = true)
    (l26 : K.lookup f26 = some ⟨oc26, od26, .func (PySem.W.fnOf "__ge__" "Rank.__ge__" (defArgs sRGe) (defBody sRGe) (defScope sRGe) .none kV26 dc26 pm26 an26 cd26 ct26), sl26⟩)
    (c26 : PySem.W.codeIn K cd26 "Rank.__ge__" = true)
    (k26 : PySem.W.keepIn K (.ref f26) = true)
    (a27 : PySem.W.findIn K (.ref CS) "__init__" = some (some (.ref f27)))
    (i27 : PySem.W.isFn K (.ref f27) = true)
    (l27 : K.lookup f27 = some ⟨oc27, od27, .func (PySem.W.fnOf "__init__" "Sheet.__init__" (defArgs sSInit) (defBody sSInit) (defScope sSInit) .none kV27 dc27 pm27 an27 cd27 ct27), sl27⟩)
    (c27 : PySem.W.codeIn K cd27 "Sheet.__init__" = true)
    (k27 : PySem.W.keepIn K (.ref f27) = true)
    (a28 : PySem.W.findIn K (.ref CS) "row" = some (some (.ref f28)))
    (i28 : PySem.W.isFn K (.ref f28) = true)
    (l28 : K.lookup f28 = some ⟨oc28, od28, .func (PySem.W.fnOf "row" "Sheet.row" (defArgs sSRow) (defBody sSRow) (defScope sSRow) .none kV28 dc28 pm28 an28 cd28 ct28), sl28⟩)
    (c28 : PySem.W.codeIn K cd28 "Sheet.row" = true)
    (k28 : PySem.W.keepIn K (.ref f28) = true)
    (a29 : PySem.W.findIn K (.ref CS) "rank" = some (some (.ref f29)))
    (i29 : PySem.W.isFn K (.ref f29) = true)
    (l29 : K.lookup f29 = some ⟨oc29, od29, .func (PySem.W.fnOf "rank" "Sheet.rank" (defArgs sSRank) (defBody sSRank) (defScope sSRank) .none kV29 dc29 pm29 an29 cd29 ct29), sl29⟩)
    (c29 : PySem.W.codeIn K cd29 "Sheet.rank" = true)
    (k29 : PySem.W.keepIn K (.ref f29) = true)
    (a30 : PySem.W.findIn K (.ref C) "__init__" = some (some (.ref f30)))
    (l30 : K.lookup f30 = some ⟨oc30, od30, .func (PySem.W.fnOf "__init__" "BadPattern.__init__" (defArgs sBPInit) (defBody sBPInit) (defScope sBPInit) .none kV30 dc30 pm30 an30 cd30 ct30), sl30⟩)
    (c30 : PySem.W.codeIn K cd30 "BadPattern.__init__" = true)
    (k30 : PySem.W.keepIn K (.ref f30) = true)
    (t30 : PySem.W.typeIn K (.ref f30) = some (.type "function"))
    (z0 : PySem.W.nsIn K mainGlobals "len" = some none)
    (z1 : PySem.W.nsIn K mainGlobals "int" = some none)
    (z2 : PySem.W.nsIn K mainGlobals "str" = some none)
    (z3 : PySem.W.nsIn K mainGlobals "bool" = some none)
    (z4 : PySem.W.nsIn K mainGlobals "tuple" = some none)
    (z5 : PySem.W.nsIn K mainGlobals "range" = some none)
    (z6 : PySem.W.nsIn K mainGlobals "isinstance" = some none)
    (z7 : PySem.W.nsIn K mainGlobals "ValueError" = some none)
    (z8 : PySem.W.nsIn K mainGlobals "list" = some none)
    (z9 : PySem.W.nsIn K mainGlobals "enumerate" = some none) :
    ∃ fd : FuncData, (∀ (s : Shared) (v : Value), BindsTo s fd ⟨[v], []⟩ [("_law_script", v)]) ∧ ∀ base : Heap, K.In base → base.Ns mainGlobals mg → FnOk l.prog w K mg base CX0 11 fa fd ["_law_script"] (spLaw K) := by
  have e := hfa.symm.trans (PySem.W.mg_of X G a16); cases e
  have B : Blt mg := ⟨PySem.W.mg_none_of X G z0, PySem.W.mg_none_of X G z1, PySem.W.mg_none_of X G z2, PySem.W.mg_none_of X G z3, PySem.W.mg_none_of X G z4, PySem.W.mg_none_of X G z5, PySem.W.mg_none_of X G z6, PySem.W.mg_none_of X G z7, PySem.W.mg_none_of X G z8, PySem.W.mg_none_of X G z9⟩
  have F1 := fun_mk (st := sLetter) l1 c1 k1
  have F2 := fun_mk (st := sNameEnd) l2 c2 k2
  have F3 := fun_mk (st := sIsName) l3 c3 k3
  have F4 := fun_mk (st := sTest) l4 c4 k4
  have F5 := fun_mk (st := sTests) l5 c5 k5
  have F6 := fun_mk (st := sValue) l6 c6 k6
  have F7 := fun_mk (st := sRRow) l7 c7 k7
  have F8 := fun_mk (st := sCell) l8 c8 k8
  have F9 := fun_mk (st := sRow) l9 c9 k9
  have F10 := fun_mk (st := sNumber) l10 c10 k10
  have F11 := fun_mk (st := sParts) l11 c11 k11
  have F12 := fun_mk (st := sLine) l12 c12 k12
  have F13 := fun_mk (st := sOrder) l13 c13 k13
  have F14 := fun_mk (st := sFields) l14 c14 k14
  have F15 := fun_mk (st := sCompared) l15 c15 k15
  have F16 := fun_mk (st := sLaw) l16 c16 k16
  have F17 := fun_mk (st := sPInit) l17 c17 k17
  have F18 := fun_mk (st := sAsked) l18 c18 k18
  have F19 := fun_mk (st := sNamed) l19 c19 k19
  have F20 := fun_mk (st := sRInit) l20 c20 k20
  have F21 := fun_mk (st := sREq) l21 c21 k21
  have F22 := fun_mk (st := sRNe) l22 c22 k22
  have F23 := fun_mk (st := sRLt) l23 c23 k23
  have F24 := fun_mk (st := sRLe) l24 c24 k24
  have F25 := fun_mk (st := sRGt) l25 c25 k25
  have F26 := fun_mk (st := sRGe) l26 c26 k26
  have F27 := fun_mk (st := sSInit) l27 c27 k27
  have F28 := fun_mk (st := sSRow) l28 c28 k28
  have F29 := fun_mk (st := sSRank) l29 c29 k29
  have F30 := fun_mk (st := sBPInit) l30 c30 k30
  have b1 := F1.binds (ps := ["char"]) fun _ _ _ _ _ _ us hl => match us, hl with | [_], _ => rfl
  have b2 := F2.binds (ps := ["text", "start"]) fun _ _ _ _ _ _ us hl => match us, hl with | [_, _], _ => rfl
  have b3 := F3.binds (ps := ["text"]) fun _ _ _ _ _ _ us hl => match us, hl with | [_], _ => rfl
  have b4 := F4.binds (ps := ["word"]) fun _ _ _ _ _ _ us hl => match us, hl with | [_], _ => rfl
  have b5 := F5.binds (ps := ["text"]) fun _ _ _ _ _ _ us hl => match us, hl with | [_], _ => rfl
  have b6 := F6.binds (ps := ["text"]) fun _ _ _ _ _ _ us hl => match us, hl with | [_], _ => rfl
  have b7 := F7.binds (ps := ["line", "number"]) fun _ _ _ _ _ _ us hl => match us, hl with | [_, _], _ => rfl
  have b8 := F8.binds (ps := ["_law_script", "_law_k"]) fun _ _ _ _ _ _ us hl => match us, hl with | [_, _], _ => rfl
  have b9 := F9.binds (ps := ["_law_cell_here", "_law_limits"]) fun _ _ _ _ _ _ us hl => match us, hl with | [_, _], _ => rfl
  have b10 := F10.binds (ps := ["_law_value"]) fun _ _ _ _ _ _ us hl => match us, hl with | [_], _ => rfl
  have b11 := F11.binds (ps := ["_law_cell_here", "_law_before"]) fun _ _ _ _ _ _ us hl => match us, hl with | [_, _], _ => rfl
  have b12 := F12.binds (ps := ["_law_cell_here", "_law_index"]) fun _ _ _ _ _ _ us hl => match us, hl with | [_, _], _ => rfl
  have b13 := F13.binds (ps := ["_law_one", "_law_two"]) fun _ _ _ _ _ _ us hl => match us, hl with | [_, _], _ => rfl
  have b14 := F14.binds (ps := ["_law_rank", "_law_parts_here"]) fun _ _ _ _ _ _ us hl => match us, hl with | [_, _], _ => rfl
  have b15 := F15.binds (ps := ["_law_one", "_law_two", "_law_order_here"]) fun _ _ _ _ _ _ us hl => match us, hl with | [_, _, _], _ => rfl
  have b17 := F17.binds (ps := ["self", "text"]) fun _ _ _ _ _ _ us hl => match us, hl with | [_, _], _ => rfl
  have b18 := F18.binds (ps := ["self"]) fun _ _ _ _ _ _ us hl => match us, hl with | [_], _ => rfl
  have b19 := F19.binds (ps := ["self"]) fun _ _ _ _ _ _ us hl => match us, hl with | [_], _ => rfl
  have b20 := F20.binds (ps := ["self", "firm", "marks", "kinds", "index"]) fun _ _ _ _ _ _ us hl => match us, hl with | [_, _, _, _, _], _ => rfl
  have b21 := F21.binds (ps := ["self", "other"]) fun _ _ _ _ _ _ us hl => match us, hl with | [_, _], _ => rfl
  have b22 := F22.binds (ps := ["self", "other"]) fun _ _ _ _ _ _ us hl => match us, hl with | [_, _], _ => rfl
  have b23 := F23.binds (ps := ["self", "other"]) fun _ _ _ _ _ _ us hl => match us, hl with | [_, _], _ => rfl
  have b24 := F24.binds (ps := ["self", "other"]) fun _ _ _ _ _ _ us hl => match us, hl with | [_, _], _ => rfl
  have b25 := F25.binds (ps := ["self", "other"]) fun _ _ _ _ _ _ us hl => match us, hl with | [_, _], _ => rfl
  have b26 := F26.binds (ps := ["self", "other"]) fun _ _ _ _ _ _ us hl => match us, hl with | [_, _], _ => rfl
  have b27 := F27.binds (ps := ["self", "lines"]) fun _ _ _ _ _ _ us hl => match us, hl with | [_, _], _ => rfl
  have b28 := F28.binds (ps := ["self", "index"]) fun _ _ _ _ _ _ us hl => match us, hl with | [_, _], _ => rfl
  have b29 := F29.binds (ps := ["self", "index"]) fun _ _ _ _ _ _ us hl => match us, hl with | [_, _], _ => rfl
  have b30 := F30.binds (ps := ["self", "text"]) fun _ _ _ _ _ _ us hl => match us, hl with | [_, _], _ => rfl
  have Z : Cst mg tk0 tk1 tk2 tk3 tk4 tk5 := ⟨PySem.W.mg_of X G c_LONGEST_NAME, PySem.W.mg_of X G c_MOST_TESTS, PySem.W.mg_of X G c_ANY_KIND, PySem.W.mg_of X G c_INSIDE, PySem.W.mg_of X G c_CHILD, PySem.W.mg_of X G c_BEHIND⟩
  have U : Shc mg RD tk6 tk7 tk8 := ⟨PySem.W.mg_of X G c_MOST_ROWS, PySem.W.mg_of X G c_DIGITS, PySem.W.mg_of X G c_FIRM, PySem.W.mg_of X G aRD⟩
  have RG : Rngs K w RD := ⟨⟨rges, rgn, rg_at, rg_lit, rg_low⟩, fun x hx => by
    simp only [rngs, List.mem_cons, List.not_mem_nil, or_false] at hx
    rcases hx with rfl | rfl | rfl | rfl | rfl | rfl
    · exact ⟨rt0, _, _, _, ru0, rv0, rk0, rl0, rfl, rfl, rfl⟩
    · exact ⟨rt1, _, _, _, ru1, rv1, rk1, rl1, rfl, rfl, rfl⟩
    · exact ⟨rt2, _, _, _, ru2, rv2, rk2, rl2, rfl, rfl, rfl⟩
    · exact ⟨rt3, _, _, _, ru3, rv3, rk3, rl3, rfl, rfl, rfl⟩
    · exact ⟨rt4, _, _, _, ru4, rv4, rk4, rl4, rfl, rfl, rfl⟩
    · exact ⟨rt5, _, _, _, ru5, rv5, rk5, rl5, rfl, rfl, rfl⟩⟩
  have T : Txt K mg CP := ⟨⟨pgCP, hdCP, poCP, saCP⟩, nCP_tests, nCP_links, nCP_text, PySem.W.mg_of X G aCP⟩
  have TS : STxt K mg CS := ⟨⟨pgCS, hdCS, poCS, saCS⟩, nCS_lines, nCS_rows, PySem.W.mg_of X G aCS⟩
  have TR : RTxt K mg CR := ⟨⟨pgCR, hdCR, poCR, saCR⟩, nCR_firm, nCR_marks, nCR_kinds, nCR_index, nCR_parts, PySem.W.mg_of X G aCR, ih_ha, ih_hn, ih_ht, ih_hm, ih_ks, ih_kt, ih_sb, PySem.W.mg_none_of X G ih_ni⟩
  have NP : BadP K mg C f30 _ := ⟨PySem.W.mg_of X G aC, ⟨⟨nm_C, q_C, N_C, bs_C, bm_C, sn_C, sub_C, ab_C, col_C, dd_C, m0_C, m1_C, m2_C, m3_C, m5_C, x_C, xb_C⟩, sa_C, xe_C, xt_C, xk_C⟩, f_C_text, a30, t30, F30, b30⟩
  exact ⟨PySem.W.fnOf "law" "law" (defArgs sLaw) (defBody sLaw) (defScope sLaw) .none kV16 dc16 pm16 an16 cd16 ct16, fun s v => .of_eq rfl, fun base _ _ =>
    ok_law B Z U RG T TS TR ⟨mkCP, a17, i17, kcCP⟩ ⟨mkCR, a20, i20, kcCR⟩ ⟨mkCS, a27, i27, kcCS⟩ NP F16 F1 b1 (PySem.W.mg_of X G a1) F2 b2 (PySem.W.mg_of X G a2) F3 b3 (PySem.W.mg_of X G a3) F4 b4 (PySem.W.mg_of X G a4) F5 b5 (PySem.W.mg_of X G a5) F6 b6 (PySem.W.mg_of X G a6) F7 b7 (PySem.W.mg_of X G a7) F8 b8 (PySem.W.mg_of X G a8) F9 b9 (PySem.W.mg_of X G a9) F10 b10 (PySem.W.mg_of X G a10) F11 b11 (PySem.W.mg_of X G a11) F12 b12 (PySem.W.mg_of X G a12) F13 b13 (PySem.W.mg_of X G a13) F14 b14 (PySem.W.mg_of X G a14) F15 b15 (PySem.W.mg_of X G a15) F17 b17 F18 b18 ⟨a18, pg18, pt18, ⟨_, pr18⟩⟩ F19 b19 ⟨a19, pg19, pt19, ⟨_, pr19⟩⟩ F20 b20 F21 b21 ⟨a21, i21⟩ F22 b22 ⟨a22, i22⟩ F23 b23 ⟨a23, i23⟩ F24 b24 ⟨a24, i24⟩ F25 b25 ⟨a25, i25⟩ F26 b26 ⟨a26, i26⟩ F27 b27 F28 b28 ⟨a28, i28, k28⟩ F29 b29 ⟨a29, i29, k29⟩⟩
end K11
open PySem PySem.W PyProof.Rows
set_option maxRecDepth 100000 in
set_option maxHeartbeats 0 in
theorem PySem.Challenge.cw_laidforall_k11_ranks_holds : PySem.Challenge.rw_laidforall_k11_ranks.Holds := by
  w_on; o_law; k_head; (case hw => w_witness2)
  k_fill
  refine L2.walk_of (l := PySem.Challenge.rw_laidforall_k11_ranks) (n := 63) (k := 11) (x := "_law_script") (CX := fun _ => L2.CX0) (sp := fun w => K11.spLaw _) rfl (by decide) rfl ⟨rfl, by decide, by decide⟩ (fun w h Y => PySem.W.kIn_of Y) ?F (fun _ _ a ns hl _ hS => ⟨a, ns, rfl, hS, hl, fun _ => rfl⟩) (fun _ _ _ _ _ h => h)
  case F =>
    intro w mg fa h KX G hmg
    refine' K11.all_mk KX G hmg ?zz_c_LONGEST_NAME ?zz_c_MOST_TESTS ?zz_c_ANY_KIND ?zz_c_INSIDE ?zz_c_CHILD ?zz_c_BEHIND ?zz_c_MOST_ROWS ?zz_c_DIGITS ?zz_c_FIRM ?zz_aCP ?zz_pgCP ?zz_hdCP ?zz_poCP ?zz_saCP ?zz_mkCP ?zz_kcCP ?zz_nCP_tests ?zz_nCP_links ?zz_nCP_text ?zz_aCR ?zz_pgCR ?zz_hdCR ?zz_poCR ?zz_saCR ?zz_mkCR ?zz_kcCR ?zz_nCR_firm ?zz_nCR_marks ?zz_nCR_kinds ?zz_nCR_index ?zz_nCR_parts ?zz_aCS ?zz_pgCS ?zz_hdCS ?zz_poCS ?zz_saCS ?zz_mkCS ?zz_kcCS ?zz_nCS_lines ?zz_nCS_rows ?zz_aRD ?zz_aC ?zz_x_C ?zz_xb_C ?zz_sa_C ?zz_xe_C ?zz_xt_C ?zz_xk_C ?zz_f_C_text ?zz_hg_C ?zz_hk_C ?zz_hd_C ?zz_ha_C ?zz_hn_C ?zz_ht_C ?zz_hm_C ?zz_ls_C ?zz_ih_ha ?zz_ih_hn ?zz_ih_ht ?zz_ih_hm ?zz_ih_ks ?zz_ih_kt ?zz_ih_sb ?zz_ih_ni ?zz_rg_at ?zz_rg_lit ?zz_rg_low ?zz_rk0 ?zz_rl0 ?zz_rk1 ?zz_rl1 ?zz_rk2 ?zz_rl2 ?zz_rk3 ?zz_rl3 ?zz_rk4 ?zz_rl4 ?zz_rk5 ?zz_rl5 ?zz_a1 ?zz_l1 ?zz_c1 ?zz_k1 ?zz_a2 ?zz_l2 ?zz_c2 ?zz_k2 ?zz_a3 ?zz_l3 ?zz_c3 ?zz_k3 ?zz_a4 ?zz_l4 ?zz_c4 ?zz_k4 ?zz_a5 ?zz_l5 ?zz_c5 ?zz_k5 ?zz_a6 ?zz_l6 ?zz_c6 ?zz_k6 ?zz_a7 ?zz_l7 ?zz_c7 ?zz_k7 ?zz_a8 ?zz_l8 ?zz_c8 ?zz_k8 ?zz_a9 ?zz_l9 ?zz_c9 ?zz_k9 ?zz_a10 ?zz_l10 ?zz_c10 ?zz_k10 ?zz_a11 ?zz_l11 ?zz_c11 ?zz_k11 ?zz_a12 ?zz_l12 ?zz_c12 ?zz_k12 ?zz_a13 ?zz_l13 ?zz_c13 ?zz_k13 ?zz_a14 ?zz_l14 ?zz_c14 ?zz_k14 ?zz_a15 ?zz_l15 ?zz_c15 ?zz_k15 ?zz_a16 ?zz_l16 ?zz_c16 ?zz_k16 ?zz_a17 ?zz_i17 ?zz_l17 ?zz_c17 ?zz_k17 ?zz_a18 ?zz_pg18 ?zz_pt18 ?zz_pr18 ?zz_l18 ?zz_c18 ?zz_k18 ?zz_a19 ?zz_pg19 ?zz_pt19 ?zz_pr19 ?zz_l19 ?zz_c19 ?zz_k19 ?zz_a20 ?zz_i20 ?zz_l20 ?zz_c20 ?zz_k20 ?zz_a21 ?zz_i21 ?zz_l21 ?zz_c21 ?zz_k21 ?zz_a22 ?zz_i22 ?zz_l22 ?zz_c22 ?zz_k22 ?zz_a23 ?zz_i23 ?zz_l23 ?zz_c23 ?zz_k23 ?zz_a24 ?zz_i24 ?zz_l24 ?zz_c24 ?zz_k24 ?zz_a25 ?zz_i25 ?zz_l25 ?zz_c25 ?zz_k25 ?zz_a26 ?zz_i26 ?zz_l26 ?zz_c26 ?zz_k26 ?zz_a27 ?zz_i27 ?zz_l27 ?zz_c27 ?zz_k27 ?zz_a28 ?zz_i28 ?zz_l28 ?zz_c28 ?zz_k28 ?zz_a29 ?zz_i29 ?zz_l29 ?zz_c29 ?zz_k29 ?zz_a30 ?zz_l30 ?zz_c30 ?zz_k30 ?zz_t30 ?zz_z0 ?zz_z1 ?zz_z2 ?zz_z3 ?zz_z4 ?zz_z5 ?zz_z6 ?zz_z7 ?zz_z8 ?zz_z9
    (case zz_c_LONGEST_NAME => first | k_is | rfl)
    (case zz_c_MOST_TESTS => first | k_is | rfl)
    (case zz_c_ANY_KIND => first | k_is | rfl)
    (case zz_c_INSIDE => first | k_is | rfl)
    (case zz_c_CHILD => first | k_is | rfl)
    (case zz_c_BEHIND => first | k_is | rfl)
    (case zz_c_MOST_ROWS => first | k_is | rfl)
    (case zz_c_DIGITS => first | k_is | rfl)
    (case zz_c_FIRM => first | k_is | rfl)
    (case zz_aCP => first | k_is | rfl)
    (case zz_pgCP => first | k_is | rfl)
    (case zz_hdCP => first | k_is | rfl)
    (case zz_poCP => first | k_is | rfl)
    (case zz_saCP => first | k_is | rfl)
    (case zz_mkCP => first | k_is | rfl)
    (case zz_kcCP => first | k_is | rfl)
    (case zz_nCP_tests => first | k_is | rfl)
    (case zz_nCP_links => first | k_is | rfl)
    (case zz_nCP_text => first | k_is | rfl)
    (case zz_aCR => first | k_is | rfl)
    (case zz_pgCR => first | k_is | rfl)
    (case zz_hdCR => first | k_is | rfl)
    (case zz_poCR => first | k_is | rfl)
    (case zz_saCR => first | k_is | rfl)
    (case zz_mkCR => first | k_is | rfl)
    (case zz_kcCR => first | k_is | rfl)
    (case zz_nCR_firm => first | k_is | rfl)
    (case zz_nCR_marks => first | k_is | rfl)
    (case zz_nCR_kinds => first | k_is | rfl)
    (case zz_nCR_index => first | k_is | rfl)
    (case zz_nCR_parts => first | k_is | rfl)
    (case zz_aCS => first | k_is | rfl)
    (case zz_pgCS => first | k_is | rfl)
    (case zz_hdCS => first | k_is | rfl)
    (case zz_poCS => first | k_is | rfl)
    (case zz_saCS => first | k_is | rfl)
    (case zz_mkCS => first | k_is | rfl)
    (case zz_kcCS => first | k_is | rfl)
    (case zz_nCS_lines => first | k_is | rfl)
    (case zz_nCS_rows => first | k_is | rfl)
    (case zz_aRD => first | k_is | rfl)
    (case zz_aC => first | k_is | rfl)
    (case zz_x_C => first | k_is | rfl)
    (case zz_xb_C => decide +kernel)
    (case zz_sa_C => first | k_is | rfl)
    (case zz_xe_C => first | k_is | rfl)
    (case zz_xt_C => first | k_is | rfl)
    (case zz_xk_C => first | k_is | rfl)
    (case zz_f_C_text => first | k_is | rfl)
    (case zz_hg_C => first | k_is | rfl)
    (case zz_hk_C => first | k_is | rfl)
    (case zz_hd_C => first | k_is | rfl)
    (case zz_ha_C => first | k_is | rfl)
    (case zz_hn_C => first | k_is | rfl)
    (case zz_ht_C => first | k_is | rfl)
    (case zz_hm_C => first | k_is | rfl)
    (case zz_ls_C => first | k_is | rfl)
    (case zz_ih_ha => first | k_is | rfl)
    (case zz_ih_hn => first | k_is | rfl)
    (case zz_ih_ht => first | k_is | rfl)
    (case zz_ih_hm => first | k_is | rfl)
    (case zz_ih_ks => first | k_is | rfl)
    (case zz_ih_kt => first | k_is | rfl)
    (case zz_ih_sb => first | k_is | rfl)
    (case zz_ih_ni => first | k_is | rfl)
    (case zz_rg_at => first | k_is | rfl)
    (case zz_rg_lit => exact ⟨⟨_, _, rfl, rfl⟩, ⟨_, _, rfl, rfl⟩, ⟨_, _, rfl, rfl⟩, ⟨_, _, rfl, rfl⟩, ⟨_, _, rfl, rfl⟩, ⟨_, _, rfl, rfl⟩, trivial⟩)
    (case zz_rg_low => first | k_is | rfl)
    (case zz_rk0 => first | k_is | rfl)
    (case zz_rl0 => first | k_is | rfl)
    (case zz_rk1 => first | k_is | rfl)
    (case zz_rl1 => first | k_is | rfl)
    (case zz_rk2 => first | k_is | rfl)
    (case zz_rl2 => first | k_is | rfl)
    (case zz_rk3 => first | k_is | rfl)
    (case zz_rl3 => first | k_is | rfl)
    (case zz_rk4 => first | k_is | rfl)
    (case zz_rl4 => first | k_is | rfl)
    (case zz_rk5 => first | k_is | rfl)
    (case zz_rl5 => first | k_is | rfl)
    (case zz_a1 => first | k_is | rfl)
    (case zz_l1 => first | k_is | rfl)
    (case zz_c1 => first | k_is | rfl)
    (case zz_k1 => first | k_is | rfl)
    (case zz_a2 => first | k_is | rfl)
    (case zz_l2 => first | k_is | rfl)
    (case zz_c2 => first | k_is | rfl)
    (case zz_k2 => first | k_is | rfl)
    (case zz_a3 => first | k_is | rfl)
    (case zz_l3 => first | k_is | rfl)
    (case zz_c3 => first | k_is | rfl)
    (case zz_k3 => first | k_is | rfl)
    (case zz_a4 => first | k_is | rfl)
    (case zz_l4 => first | k_is | rfl)
    (case zz_c4 => first | k_is | rfl)
    (case zz_k4 => first | k_is | rfl)
    (case zz_a5 => first | k_is | rfl)
    (case zz_l5 => first | k_is | rfl)
    (case zz_c5 => first | k_is | rfl)
    (case zz_k5 => first | k_is | rfl)
    (case zz_a6 => first | k_is | rfl)
    (case zz_l6 => first | k_is | rfl)
    (case zz_c6 => first | k_is | rfl)
    (case zz_k6 => first | k_is | rfl)
    (case zz_a7 => first | k_is | rfl)
    (case zz_l7 => first | k_is | rfl)
    (case zz_c7 => first | k_is | rfl)
    (case zz_k7 => first | k_is | rfl)
    (case zz_a8 => first | k_is | rfl)
    (case zz_l8 => first | k_is | rfl)
    (case zz_c8 => first | k_is | rfl)
    (case zz_k8 => first | k_is | rfl)
    (case zz_a9 => first | k_is | rfl)
    (case zz_l9 => first | k_is | rfl)
    (case zz_c9 => first | k_is | rfl)
    (case zz_k9 => first | k_is | rfl)
    (case zz_a10 => first | k_is | rfl)
    (case zz_l10 => first | k_is | rfl)
    (case zz_c10 => first | k_is | rfl)
    (case zz_k10 => first | k_is | rfl)
    (case zz_a11 => first | k_is | rfl)
    (case zz_l11 => first | k_is | rfl)
    (case zz_c11 => first | k_is | rfl)
    (case zz_k11 => first | k_is | rfl)
    (case zz_a12 => first | k_is | rfl)
    (case zz_l12 => first | k_is | rfl)
    (case zz_c12 => first | k_is | rfl)
    (case zz_k12 => first | k_is | rfl)
    (case zz_a13 => first | k_is | rfl)
    (case zz_l13 => first | k_is | rfl)
    (case zz_c13 => first | k_is | rfl)
    (case zz_k13 => first | k_is | rfl)
    (case zz_a14 => first | k_is | rfl)
    (case zz_l14 => first | k_is | rfl)
    (case zz_c14 => first | k_is | rfl)
    (case zz_k14 => first | k_is | rfl)
    (case zz_a15 => first | k_is | rfl)
    (case zz_l15 => first | k_is | rfl)
    (case zz_c15 => first | k_is | rfl)
    (case zz_k15 => first | k_is | rfl)
    (case zz_a16 => first | k_is | rfl)
    (case zz_l16 => first | k_is | rfl)
    (case zz_c16 => first | k_is | rfl)
    (case zz_k16 => first | k_is | rfl)
    (case zz_a17 => first | k_is | rfl)
    (case zz_i17 => first | k_is | rfl)
    (case zz_l17 => first | k_is | rfl)
    (case zz_c17 => first | k_is | rfl)
    (case zz_k17 => first | k_is | rfl)
    (case zz_a18 => first | k_is | rfl)
    (case zz_pg18 => first | k_is | rfl)
    (case zz_pt18 => first | k_is | rfl)
    (case zz_pr18 => first | k_is | rfl)
    (case zz_l18 => first | k_is | rfl)
    (case zz_c18 => first | k_is | rfl)
    (case zz_k18 => first | k_is | rfl)
    (case zz_a19 => first | k_is | rfl)
    (case zz_pg19 => first | k_is | rfl)
    (case zz_pt19 => first | k_is | rfl)
    (case zz_pr19 => first | k_is | rfl)
    (case zz_l19 => first | k_is | rfl)
    (case zz_c19 => first | k_is | rfl)
    (case zz_k19 => first | k_is | rfl)
    (case zz_a20 => first | k_is | rfl)
    (case zz_i20 => first | k_is | rfl)
    (case zz_l20 => first | k_is | rfl)
    (case zz_c20 => first | k_is | rfl)
    (case zz_k20 => first | k_is | rfl)
    (case zz_a21 => first | k_is | rfl)
    (case zz_i21 => first | k_is | rfl)
    (case zz_l21 => first | k_is | rfl)
    (case zz_c21 => first | k_is | rfl)
    (case zz_k21 => first | k_is | rfl)
    (case zz_a22 => first | k_is | rfl)
    (case zz_i22 => first | k_is | rfl)
    (case zz_l22 => first | k_is | rfl)
    (case zz_c22 => first | k_is | rfl)
    (case zz_k22 => first | k_is | rfl)
    (case zz_a23 => first | k_is | rfl)
    (case zz_i23 => first | k_is | rfl)
    (case zz_l23 => first | k_is | rfl)
    (case zz_c23 => first | k_is | rfl)
    (case zz_k23 => first | k_is | rfl)
    (case zz_a24 => first | k_is | rfl)
    (case zz_i24 => first | k_is | rfl)
    (case zz_l24 => first | k_is | rfl)
    (case zz_c24 => first | k_is | rfl)
    (case zz_k24 => first | k_is | rfl)
    (case zz_a25 => first | k_is | rfl)
    (case zz_i25 => first | k_is | rfl)
    (case zz_l25 => first | k_is | rfl)
    (case zz_c25 => first | k_is | rfl)
    (case zz_k25 => first | k_is | rfl)
    (case zz_a26 => first | k_is | rfl)
    (case zz_i26 => first | k_is | rfl)
    (case zz_l26 => first | k_is | rfl)
    (case zz_c26 => first | k_is | rfl)
    (case zz_k26 => first | k_is | rfl)
    (case zz_a27 => first | k_is | rfl)
    (case zz_i27 => first | k_is | rfl)
    (case zz_l27 => first | k_is | rfl)
    (case zz_c27 => first | k_is | rfl)
    (case zz_k27 => first | k_is | rfl)
    (case zz_a28 => first | k_is | rfl)
    (case zz_i28 => first | k_is | rfl)
    (case zz_l28 => first | k_is | rfl)
    (case zz_c28 => first | k_is | rfl)
    (case zz_k28 => first | k_is | rfl)
    (case zz_a29 => first | k_is | rfl)
    (case zz_i29 => first | k_is | rfl)
    (case zz_l29 => first | k_is | rfl)
    (case zz_c29 => first | k_is | rfl)
    (case zz_k29 => first | k_is | rfl)
    (case zz_a30 => first | k_is | rfl)
    (case zz_l30 => first | k_is | rfl)
    (case zz_c30 => first | k_is | rfl)
    (case zz_k30 => first | k_is | rfl)
    (case zz_t30 => first | k_is | rfl)
    (case zz_z0 => first | k_is | rfl)
    (case zz_z1 => first | k_is | rfl)
    (case zz_z2 => first | k_is | rfl)
    (case zz_z3 => first | k_is | rfl)
    (case zz_z4 => first | k_is | rfl)
    (case zz_z5 => first | k_is | rfl)
    (case zz_z6 => first | k_is | rfl)
    (case zz_z7 => first | k_is | rfl)
    (case zz_z8 => first | k_is | rfl)
    (case zz_z9 => first | k_is | rfl)

