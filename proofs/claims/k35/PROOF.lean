import PyProof.Rows.All
import Wide.All
import OpenK.AllK
import Wide.FinOn
import HandS.ForMost
import HandS.OwnIter
import HandS.IterNext
import HandS.IterVal
import HandS.Call
import HandS.ExcOwn
import HandS.Exc
import HandS.Star
import HandS.MakeKw
import PyProof.Rows.CallKw2
import HandS.Dict
import HandS.Iter
import KE.KIsAll
import KE.KTryMore
import HandS.ForExc
import HandS.ExcInit
import HandS.ExcIs
import HandS.ExcField
import HandS.IsInst
import HandS.TupAny
import HandS.Walk
import HandS.NoneIn
import HandS.Evl
import HandS.Words
import HandS.FStr
import HandS.Text
import HandS.StrMore
import HandS.More
import HandS.Deep
import HandS.Codes
import HandS.ExcCtx
import HandS.HotCalls
import HandS.WordsExc
import HandS.ClsMeth
import HandS.Defaults
import HandS.MakeKwOnly
import HandS.Zip
import HandS.OwnEq
import HandS.SlotsOwn
import HandS.Property
import KE.KCallOwn
import KE.KParD
import KE.KStar
import PyProof.TupleIter
import HandS.CallSlots
import HandS.TupLe
import PySem.Challenge.RW_laidforall_k35_books
set_option Elab.async false
set_option linter.all false
set_option maxRecDepth 100000
set_option maxHeartbeats 2000000
namespace RO
open PySem PySem.Spec PyProof.Rows L2 ItX
/-! ### a def whose promise knows how large the heap was -/
structure FnN (P : Program) (w : World) (K : PySem.W.Frag) (mg : Str → Option Value) (base : Heap) (CX : CXT) (k : Nat) (f : Addr) (fd : FuncData) (ps : List Str) (sp : Nat → Sp) : Prop where
  len : ∀ n vs H Q E, sp n vs H Q E → vs.length = ps.length
  run : ∀ (A : Around) (outer : List Env) (s : Shared) (H : Hp) (args : Args) (us : List Value) (vs : List V) (Q : VK) (E : XK), Room k A → Env0 P w K mg base A outer s H → BindsTo s fd args (ps.zip us) → Vals vs us → sp s.heap.objs.size vs H Q E →
    codeAny (model P w) A (.call (.ref f) args) (CR CX outer P w H s Q E) s
theorem fn_ofN {CX : CXT} {P : Program} {w : World} {K : PySem.W.Frag} {mg : Str → Option Value} {base : Heap} {k : Nat} {f : Addr} {name qual : Str} {params : Arguments} {body : List Stmt} {scope : Scope} {dV kV doc pm cdv ct oc : Value} {an od : Option Addr}
    {osl : Array (Option Value)} {N ps : List Str} {sp : Nat → Sp} (lk : K.lookup f = some ⟨oc, od, .func (PySem.W.fnOf name qual params body scope dV kV doc pm an cdv ct), osl⟩) (hcd : PySem.W.codeIn K cdv qual = true) (S : FnScope N ps scope)
    (len : ∀ n vs H Q E, sp n vs H Q E → vs.length = ps.length)
    (hbody : ∀ (A : Around) (outer : List Env) (s : Shared) (H : Hp) (vs : List V) (Q : VK) (E : XK), Room k (A.deeper (envOfC qual scope s.heap.objs.size f cdv)) → sp s.heap.objs.size vs H Q E →
      ∃ t, PSs (cxOf CX P w K mg base N qual scope f cdv A outer s H E) body t ∧ t { nx := fun _ H' => Q .non H', rt := Q } (start N vs) H) :
    FnN P w K mg base CX (k + 1) f (PySem.W.fnOf name qual params body scope dV kV doc pm an cdv ct) ps sp := by
  refine ⟨len, fun A outer s H args us vs Q E hr e0 hb r hsp => ?_⟩
  have hl := len _ _ _ _ _ hsp
  have KX : K.In s.heap := e0.mod.kin.keeps fun b o e => (e0.bs b o e).1
  have lim : s.heap.NoLimit := e0.mod.nolimit.keeps fun b o e => (e0.bs b o e).1
  have hkind : ∀ y ∈ ps.zip us, scope.names.lookup y.1 = some .local ∨ (scope.names.lookup y.1 = some .cell ∧ ((cellsFrom (s.heap.objs.size + 1) scope.names []).lookup y.1).isSome = true) := fun ⟨n, v⟩ hy => by
    rcases S.par n (List.of_mem_zip hy).1 with q | q
    · exact .inl q
    · exact .inr ⟨q, PySem.W.cellsFrom_some _ _ _ (.inl q)⟩
  refine codeAny_call_function hr.depth (KX _ _ lk) rfl S.co S.gen rfl (PySem.W.codeRec_of KX hcd) (hb _ _ _ _ ?_)
  refine wpAny_newFunctionEnv_cells S.kind hkind fun env he s1 x => ?_
  subst he
  refine ⟨lim.keeps x.toInCall.keep, codeAny_func ?_⟩
  obtain ⟨t, ht, hq⟩ := hbody A outer s H vs Q E (hr.deeper _) hsp
  have I : Inv (cxOf CX P w K mg base N qual scope f cdv A outer s H E) [] (start N vs) H s1 := inv_start S hr.hd e0 hl r x
  refine wpAny_mono (ht.run [] s1 (start N vs) H _ I hq) (fun fl s' hs => ?_) fun e s' hs => hs
  have fin : ∀ {σ' : L2.St} {H' : Hp} {v : V} {u : Value}, Inv (cxOf CX P w K mg base N qual scope f cdv A outer s H E) [] σ' H' s' → RelV v u → Q v H' → CE outer P w H s Q u s' :=
    fun {σ' H' v u} J rv q => ⟨v, H', J.os, J.bare, J.base, J.hok, rv, q⟩
  cases fl with
  | ret u =>
    obtain ⟨v, σ', H', J, rv, q⟩ := hs
    exact fin J rv q
  | next =>
    obtain ⟨σ', H', J, q⟩ := hs
    exact fin (v := V.non) (u := Value.none) J rfl q
  | brk =>
    obtain ⟨_, _, _, q⟩ := hs
    exact False.elim q
  | cont =>
    obtain ⟨_, _, _, q⟩ := hs
    exact False.elim q
section
variable {P : Program} {w : World} {K : PySem.W.Frag} {mg : Str → Option Value} {base : Heap}
theorem fun_okN {x qual : Str} {st : Stmt} {f : Addr} {fd : FuncData} {N ps : List Str} {k : Nat} {sp : Nat → Sp} (F : Fun K x qual st f fd) (S : FnScope N ps (defScope st)) (len : ∀ n vs H Q E, sp n vs H Q E → vs.length = ps.length)
    (hbody : ∀ (cdv : Value) (A : Around) (outer : List Env) (s : Shared) (H : Hp) (vs : List V) (Q : VK) (E : XK), Room k (A.deeper (envOfC qual (defScope st) s.heap.objs.size f cdv)) → sp s.heap.objs.size vs H Q E →
      ∃ t, PSs (cxOf CX0 P w K mg base N qual (defScope st) f cdv A outer s H E).nox (defBody st) t ∧ t { nx := fun _ H' => Q .non H', rt := Q } (start N vs) H) : FnN P w K mg base CX0 (k + 1) f fd ps sp := by
  obtain ⟨oc, od, kV, doc, pm, an, cdv, ct, osl, rfl, lk, hcd⟩ := F.ex
  refine fn_ofN lk hcd S len fun A outer s H vs Q E hr hsp => ?_
  obtain ⟨t, h, q⟩ := hbody cdv A outer s H vs Q E hr hsp
  exact ⟨t, h.nox, q⟩
end
/-- __iter__ hands back a new iterator over the list in a field -/
def spIt (C : Addr) (fld : Str) (n : Nat) : Sp := fun vs H Q _ => ∃ (p dx l : Addr) (fs : List (Str × V)), vs = [.ref p] ∧ H p = some (.ins C dx fs) ∧ fs.lookup fld = some (.ref l) ∧ (∃ zs, H l = some (.lst zs)) ∧ ∀ it, H it = none → n ≤ it → Q (.ref it) (upd H it (ItO l it 0))
/-- what a class with such an __iter__ has -/
structure ItrC (X : Cx) (C fi : Addr) (fdI : FuncData) (fld : Str) (k : Nat) : Prop where
  it : PySem.W.findIn X.K (.ref C) "__iter__" = some (some (.ref fi))
  itF : PySem.W.isFn X.K (.ref fi) = true
  fn : FnN X.prog X.w X.K X.mg X.base CX0 k fi fdI ["self"] (spIt C fld)
  bi : Binds X.K fdI ["self"] []
section
variable {X : Cx} {pins : List (Addr × Obj)} {σ : L2.St} {H : Hp} {s : Shared} {A1 : Around} {C fi fl p dx l : Addr} {fdI fdL : FuncData} {fld : Str} {k : Nat} {fs : List (Str × V)} {zs : List V}
theorem env_sub (I : Inv X pins σ H s) (sb : Sub X k A1) : Env0 X.prog X.w X.K X.mg X.base A1 X.stack s H := by
  have e := I.env0
  exact ⟨by rw [sb.fr]; exact e.frames, e.mod, e.bs, e.bsz, e.funs, e.frf, e.hok, e.bare⟩
/-- iter(o) -/
theorem own_iter {Q : Value → Shared → Prop} (sb : Sub X k A1) (c : ItrC X C fi fdI fld k) (I : Inv X pins σ H s) (hp : H p = some (.ins C dx fs)) (hf : fs.lookup fld = some (.ref l)) (hl : H l = some (.lst zs))
    (h : ∀ it s', H it = none → s.heap.objs.size ≤ it → s'.heap.IsListIter it l 0 → s'.heap.get? it = some (GNX.itObj l 0) → Inv X pins σ H s' → Q (.ref it) s') : wpAny (model X.prog X.w) A1 (pyIter (.ref p)) Q X.xe s := by
  obtain ⟨mA, J, _⟩ := ins_get I.hok hp
  obtain ⟨od, J, _⟩ := J.look
  obtain ⟨m0, hF⟩ := I.fr
  refine PySem.W.owit_iter hF I.ok.mod.kin J c.it c.itF ?_
  have hsp : spIt C fld s.heap.objs.size [.ref p] H (fun v H' => ∃ it, v = .ref it ∧ H it = none ∧ s.heap.objs.size ≤ it ∧ H' = upd H it (ItO l it 0)) E0 := ⟨p, dx, l, fs, rfl, hp, hf, ⟨zs, hl⟩, fun it h1 h2 => ⟨it, rfl, h1, h2, rfl⟩⟩
  have r2 : Vals [V.ref p] [Value.ref p] := .cons rfl .nil
  refine wpAny_call (codeAny_mono (c.fn.run A1 X.stack s H ⟨[.ref p], []⟩ [.ref p] [.ref p] _ E0 sb.room (env_sub I sb) (by
    have := c.bi s [.ref p] I.kIn rfl
    simpa using this) r2 hsp) fun r s' hq => ?_)
  cases r with
  | error e => exact absurd hq (fun z => z.elim)
  | ok fl =>
    cases fl with
    | next => exact False.elim hq
    | brk => exact False.elim hq
    | cont => exact False.elim hq
    | ret u =>
      obtain ⟨v, H', I', rv, it, rfl, hn, hsz, rfl⟩ := I.after hq
      cases rv
      have eo := itO_get I' upd_same
      have I2 := inv_drop I' (show upd H it (ItO l it 0) it = some (.ext _) from upd_same)
      rw [dropH_upd hn] at I2
      have hT : s'.TypeIs (.ref it) "list_iterator" := ⟨_, eo, rfl⟩
      unfold PySem.W.OwitIt
      exact wpAny_specialOf (name := Str.ofString "__next__") hT slot_listiter_next.lookup (h it s' hn hsz ⟨_, eo, rfl, rfl⟩ eo I2)
/-- len(o) by an own __len__ that only tells -/
theorem own_len {Q : Value → Shared → Prop} {E' : Value → Shared → Prop} {sp : Sp} {m : Nat} (sb : Sub X k A1.in1) (hlen : PySem.W.findIn X.K (.ref C) "__len__" = some (some (.ref fl))) (hf : PySem.W.typeIn X.K (.ref fl) = some (.type "function")) (F : FnOk X.prog X.w X.K X.mg X.base CX0 k fl fdL ["self"] sp) (b : Binds X.K fdL ["self"] [])
    (I : Inv X pins σ H s) (hp : H p = some (.ins C dx fs)) (hm : m ≤ sizeLine) (hsp : sp [.ref p] H (fun v H' => v = .int (m : Int) ∧ H' = H) E0)
    (h : ∀ t s', Inv X pins σ H s' → Q (.int (m : Int) t) s') : wpAny (model X.prog X.w) A1 (call (.builtin "len") [.ref p]) Q E' s := by
  obtain ⟨mA, J, _⟩ := ins_get I.hok hp
  obtain ⟨od, J, _⟩ := J.look
  refine Calls.call_function_entry kind_len plain_len entry_len (args_len1 _) ?_
  unfold Builtin.«len»
  refine wpAny_bind (m := oneArg "len" _) (wpAny_pure ?_)
  have r2 : Vals [V.ref p] [Value.ref p] := .cons rfl .nil
  refine wpAny_bind (m := callSpecial? (.ref p) (PySem.Str.ofString "__len__")) (PySem.W.special_fn I.kIn J hlen hf ?_)
  refine wpAny_call (codeAny_mono (F.run A1.in1 X.stack s H ⟨[.ref p], []⟩ [.ref p] [.ref p] _ E0 sb.room (env_sub I sb) (by
    have := b s [.ref p] I.kIn rfl
    simpa using this) r2 hsp) fun r s' hq => ?_)
  cases r with
  | error e => exact absurd hq (fun z => z.elim)
  | ok fl =>
    cases fl with
    | next => exact False.elim hq
    | brk => exact False.elim hq
    | cont => exact False.elim hq
    | ret u =>
      obtain ⟨v, H', I', rv, rfl, rfl⟩ := I.after hq
      obtain ⟨t, rfl⟩ := rv
      have hs : sizeLine = 16777216 := sizeLine_eq
      refine wpAny_bind (wpAny_holding (wpAny_pure ?_))
      refine wpAny_bind (wpAny_letGo ?_)
      show wpAny _ _ (if ((m : Nat) : Int) < 0 then _ else _) _ _ _
      rw [if_neg (by omega)]
      show wpAny _ _ (if ((m : Nat) : Int) ≥ 2 ^ 63 then _ else _) _ _ _
      rw [if_neg (by omega)]
      exact wpAny_bind (wpAny_mkInt (wpAny_pure ⟨_, rfl, h _ _ (I'.tok _)⟩))
end
section
variable {X : Cx} {C fi fl : Addr} {fdI fdL : FuncData} {fld : Str} {k : Nat}
/-! ### for x in o -/
def iOwnL (C : Addr) (fld : Str) (K : PySem.W.Frag) (te : TE) : TI := fun σ H R => te σ H fun v H1 => ∃ (p dx l : Addr) (fs : List (Str × V)) (zs : List V), v = .ref p ∧ H1 p = some (.ins C dx fs) ∧ fs.lookup fld = some (.ref l) ∧ H1 l = some (.lst zs) ∧ R (Itl K l) H1
theorem pi_ownL {tg e : Expr} {te : TE} (c : ItrC X C fi fdI fld k) (hr : Room k X.A) (he : PE X e te) : PI X tg e (iOwnL C fld X.K te) := by
  refine ⟨fun pins s σ H R I h => ?_⟩
  refine thn (he.run pins s σ H _ I h) fun v s1 ⟨y, H1, I1, ry, p, dx, l, fs, zs, ey, hp, hf, hl, q⟩ => ?_
  subst ey
  cases ry
  refine own_iter (⟨hr, rfl⟩ : Sub X k X.A) c I1 hp hf hl fun it s' hn hsz hli eo I' => ?_
  exact ⟨it, [it], _, _, H1, rfl, I', turn_list l it, hli, fun b hb => by rw [List.mem_singleton.mp hb]; exact I1.fpOk hsz hn, q⟩
/-! ### len(o) -/
theorem call_lenOwn {sp : Sp} (hlen : PySem.W.findIn X.K (.ref C) "__len__" = some (some (.ref fl))) (hf : PySem.W.typeIn X.K (.ref fl) = some (.type "function")) (F : FnOk X.prog X.w X.K X.mg X.base CX0 k fl fdL ["self"] sp) (b : Binds X.K fdL ["self"] []) (hr : Room (k + 1) X.A) :
    CallR X (.builtin "len") (fun xs H Q => ∃ (p dx : Addr) (fs : List (Str × V)) (m : Nat), xs = [.ref p] ∧ H p = some (.ins C dx fs) ∧ m ≤ sizeLine ∧ sp [.ref p] H (fun v H' => v = .int (m : Int) ∧ H' = H) E0 ∧ Q (.int (m : Int)) H) := by
  intro pins s σ H xs us Q I r h
  obtain ⟨p, dx, fs, m, rfl, hp, hm, hsp, q⟩ := h
  obtain ⟨u, rfl, ru⟩ := vals1 r
  obtain rfl : u = Value.ref p := ru
  exact own_len (Sub.in1 (⟨hr, rfl⟩ : Sub X (k + 1) X.A)) hlen hf F b I hp hm hsp fun t s' I' => ⟨.int (m : Int), H, I', ⟨_, rfl⟩, q⟩
end
end RO

set_option maxRecDepth 100000
set_option maxHeartbeats 2000000
namespace RO
open PySem PySem.Spec PyProof.Rows L2 ItX
/-! ### list(o) -/
/-- what a class with an own __iter__ and __len__ has -/
structure LenC (X : Cx) (C fl : Addr) (fdL : FuncData) (sp : Sp) (k : Nat) : Prop where
  at_ : PySem.W.findIn X.K (.ref C) "__len__" = some (some (.ref fl))
  ty : PySem.W.typeIn X.K (.ref fl) = some (.type "function")
  fn : FnOk X.prog X.w X.K X.mg X.base CX0 k fl fdL ["self"] sp
  bi : Binds X.K fdL ["self"] []
section
variable {X : Cx} {pins : List (Addr × Obj)} {σ : L2.St} {H : Hp} {s : Shared} {A1 : Around} {C fi fl p dx l q it : Addr} {fdI fdL : FuncData} {fld : Str} {k : Nat} {fs : List (Str × V)} {zs : List V}
theorem ext_loop {Rs : Result → Shared → Prop} (hh : A1.in1.handled = none) (nql : l ≠ q) (hl : H l = some (.lst zs)) (hsz : zs.length < sizeLine) (hq0 : H q = some (.lst []))
    (hdone : ∀ s, Inv X pins σ (upd H q (.lst zs)) s → Rs (.ok (.ret .none)) s) :
    ∀ (n i : Nat) (s : Shared), n + i = zs.length → Inv X pins σ (upd H q (.lst (zs.take i))) s → s.heap.IsListIter it l i → FpOk X pins H it →
      codeAny (model X.prog X.w) A1 (.builtin "list.extend.loop" ⟨[.ref q, .ref it, .none], []⟩) Rs s := by
  intro n
  induction n with
  | zero =>
    intro i s hi I st fp
    refine codeAny_builtin PySem.F.entry_extend_loop ?_
    rw [Around.under_plainId PySem.F.plain_extend_loop _]
    show wpAny _ A1.in1 (pyNext (.ref it) >>= _) _ _ s
    have hl' : upd H q (.lst (zs.take i)) l = some (.lst zs) := by rw [upd_ne nql]; exact hl
    obtain ⟨its, rv, pl, _⟩ := I.list (SqL.of (K := X.K) hl')
    have hlen := rv.length
    obtain ⟨f0, f1, f2, f3, f4, f5⟩ := fp
    have niq : it ≠ q := fun e => by rw [e, hq0] at f0; cases f0
    have e1 : zs.take i = zs := List.take_of_length_le (by omega)
    refine wpAny_bind (wpAny_pyNext_list_end hh st pl.isList (by simp; omega) fun h' eb => ?_)
    rw [e1] at I
    have I' : Inv X pins σ (upd H q (.lst zs)) { s with heap := h' } := I.turned (t' := s.toks) (fun b o hb e => eb b o hb e) (by rw [upd_ne niq]; exact f0) f1 f3 f4 f5
    exact wpAny_pure (hdone _ I')
  | succ n ih =>
    intro i s hi I st fp
    refine codeAny_builtin PySem.F.entry_extend_loop ?_
    rw [Around.under_plainId PySem.F.plain_extend_loop _]
    show wpAny _ A1.in1 (pyNext (.ref it) >>= _) _ _ s
    have hl' : upd H q (.lst (zs.take i)) l = some (.lst zs) := by rw [upd_ne nql]; exact hl
    obtain ⟨its, rv, pl, _⟩ := I.list (SqL.of (K := X.K) hl')
    have hlen := rv.length
    obtain ⟨f0, f1, f2, f3, f4, f5⟩ := id fp
    have niq : it ≠ q := fun e => by rw [e, hq0] at f0; cases f0
    have hv : zs[i]? = some (zs[i]'(by omega)) := List.getElem?_eq_getElem _
    obtain ⟨u, hu, ru⟩ := rv.get hv
    refine wpAny_bind (wpAny_pyNext_list_item st pl.isList (x := u) (by simpa using hu) fun h' st' sb => ?_)
    have I1 : Inv X pins σ (upd H q (.lst (zs.take i))) { s with heap := h' } := I.turned (t' := s.toks) (fun b o hb e => (sb.2 b hb).trans e) (by rw [upd_ne niq]; exact f0) f1 f3 f4 f5
    show wpAny _ A1.in1 (updateSeq q (·.push u) >>= _) _ _ _
    obtain ⟨z, its2, kk, r2, hl2, e2⟩ := I1.lstM upd_same
    refine wpAny_bind (wpAny_updateSeq e2 rfl (wpAny_pure ⟨plainId_quiet PySem.F.plain_extend_loop _, ?_⟩) (by rw [List.size_toArray, ← hl2, List.length_take]; omega) (by show (its2.toArray.push u).size ≤ sizeLine + 1; rw [Array.size_push, List.size_toArray, ← hl2, List.length_take]; omega))
    have e3 : zs.take (i + 1) = zs.take i ++ [zs[i]'(by omega)] := by rw [List.take_add_one, hv]; rfl
    have I2 := I1.lset (f := (·.push u)) (its' := its2 ++ [u]) (ys := zs.take (i + 1)) (t' := s.toks) upd_same e2 (by simp) (by rw [e3]; exact r2.append (.cons ru .nil)) (by rw [List.length_take]; omega)
    rw [upd_upd] at I2
    refine ih (i + 1) _ (by omega) I2 (st'.at fun o e => ?_) fp
    exact (Heap.get?_update_other _ _ (Ne.symm niq)).trans e
theorem own_extendL {Rs : Result → Shared → Prop} {sp : Sp} {m : Nat} (sb : Sub X (k + 1) A1.in1) (hh : A1.in1.handled = none) (ci : ItrC X C fi fdI fld k) (cl : LenC X C fl fdL sp k) (I : Inv X pins σ H s) (hp : H p = some (.ins C dx fs)) (hf : fs.lookup fld = some (.ref l)) (hl : H l = some (.lst zs)) (hsz : zs.length < sizeLine)
    (hm : m ≤ sizeLine) (hsp : sp [.ref p] H (fun v H' => v = .int (m : Int) ∧ H' = H) E0) (hq : H q = some (.lst [])) (nql : l ≠ q) (hdone : ∀ s, Inv X pins σ (upd H q (.lst zs)) s → Rs (.ok (.ret .none)) s) (herr : ∀ e s, X.xe e s → Rs (.error e) s) :
    wpAny (model X.prog X.w) A1.in1 (Builtin.List.listExtendWith (.ref q) (.ref p) .none)
      (fun fin s' => match fin with | .done f => Rs (.ok f) s' | .again c' => c'.quiet = true ∧ codeAny (model X.prog X.w) A1 c' Rs s') (fun e s' => Rs (.error e) s') s := by
  have hne : q ≠ p := ne_of hq hp (fun z => nomatch z)
  obtain ⟨mA, J, _⟩ := ins_get I.hok hp
  obtain ⟨od, J, _⟩ := J.look
  unfold Builtin.List.listExtendWith
  refine wpAny_bind (J.type.here ?_)
  have h1 : Builtin.List.listSameRef (.ref q) (.ref p) = false := by simp [Builtin.List.listSameRef, hne]
  have h2 : (Value.ref C == Value.type "list") = false := rfl
  have h3 : (Value.ref C == Value.type "tuple") = false := rfl
  simp only [h1, h2, h3, Bool.or_false, Bool.false_eq_true, if_false]
  refine wpAny_bind (wpAny_mono (own_iter (Q := fun v s' => ∃ it, v = .ref it ∧ H it = none ∧ s.heap.objs.size ≤ it ∧ s'.heap.IsListIter it l 0 ∧ s'.heap.get? it = some (GNX.itObj l 0) ∧ Inv X pins σ H s') (sb.mono (Nat.le_succ k)) ci I hp hf hl fun it s' a b c e d => ⟨it, rfl, a, b, c, e, d⟩) (fun v s' hv => ?_) fun e s' he => herr e s' he)
  obtain ⟨it, rfl, hn, hge, st, eo, I'⟩ := hv
  have fp : FpOk X pins H it := I.fpOk hge hn
  have niq : it ≠ q := fun e => by rw [e, hq] at hn; cases hn
  have hint : wpAny (model X.prog X.w) A1.in1 (Builtin.List.listLengthHint (.ref p)) (fun b s2 => Inv X pins σ H s2 ∧ s2.heap.IsListIter it l 0) (fun e s' => Rs (.error e) s') s' := by
    obtain ⟨mA', J', _⟩ := ins_get I'.hok hp
    obtain ⟨od', J', _⟩ := J'.look
    have IP : Inv X ((it, GNX.itObj l 0) :: pins) σ H s' := I'.pins_of fun r hr => by
      rcases List.mem_cons.mp hr with e | hr
      · rw [e]
        exact ⟨eo, hn, fp.2.1, fp.2.2.1, fun v z => by cases z⟩
      · exact I'.pin r (List.mem_append_right _ hr)
    unfold Builtin.List.listLengthHint
    refine wpAny_bind (wpAny_bind (J'.type.here ((PySem.W.looks_findIn I'.kIn cl.at_).here ?_)))
    refine PySem.W.KFB.if_not rfl ?_
    refine PySem.W.KFB.if_so rfl ?_
    refine wpAny_bind (wpAny_rule ?_)
    refine wpAny_bind (wpAny_attempt ?_)
    refine wpAny_mono (own_len (Q := fun v s2 => ∃ t, v = .int (m : Int) t ∧ Inv X ((it, GNX.itObj l 0) :: pins) σ H s2) (E' := fun _ _ => False) (Sub.in1 sb) cl.at_ cl.ty cl.fn cl.bi IP hp hm hsp fun t s2 h => ⟨t, rfl, h⟩) (fun v s2 hv => ?_) (fun e s2 he => he.elim)
    obtain ⟨t, rfl, I2⟩ := hv
    refine wpAny_bind (m := asInt? (.int (m : Int) t)) (wpAny_pure ?_)
    refine PySem.W.KFB.if_not (notLongL (by rw [Int.toNat_natCast]; exact hm)) ?_
    have eo2 := (I2.pin (it, GNX.itObj l 0) (List.mem_append_right _ List.mem_cons_self)).1
    exact wpAny_pure ⟨I2.pins_of fun r hr => I2.pin r (List.mem_append_right _ (List.mem_cons_of_mem _ hr)), _, eo2, rfl, rfl⟩
  refine wpAny_bind (wpAny_holding (wpAny_mono hint (fun room s2 hr => ?_) fun _ _ z => z))
  obtain ⟨I2, st2⟩ := hr
  have hupd : upd H q (.lst (zs.take 0)) = H := by
    funext b
    by_cases hb : b = q
    · rw [hb, upd_same, hq]; rfl
    · rw [upd_ne hb]
  obtain ⟨z, its, k3, r3, hl3, e3⟩ := I2.lstM hq
  cases r3
  refine wpAny_ite_split (fun _ => ?_) (fun _ => wpAny_pure ⟨plainId_quiet PySem.F.plain_extend_loop _, ext_loop hh nql hl hsz hq hdone zs.length 0 s2 rfl (by rw [hupd]; exact I2) st2 fp⟩)
  refine wpAny_bind (wpAny_rule ?_)
  refine wpAny_bind ?_
  show wpAny _ _ (updateSeq q (·.push .none) >>= fun _ => updateSeq q (·.pop)) _ _ _
  refine wpAny_bind (wpAny_updateSeq e3 rfl ?_)
  have I4 := I2.lset (f := (·.push Value.none)) (its' := [Value.none]) (ys := [.non]) (t' := s2.toks) hq e3 (by simp) (.cons rfl .nil) (by rw [List.length_singleton, sizeLine_eq]; decide)
  obtain ⟨z4, its4, k4, r4, hl4, e4⟩ := I4.lstM upd_same
  obtain ⟨u4, rfl, ru4⟩ := r4.one
  refine wpAny_updateSeq e4 rfl ?_ (by show 1 ≤ sizeLine; rw [sizeLine_eq]; decide) (by show 0 ≤ sizeLine + 1; exact Nat.zero_le _)
  have I5 := I4.lset (f := (·.pop)) (its := [u4]) (its' := []) (ys := []) (t' := s2.toks) upd_same e4 (by rfl) .nil (Nat.zero_le _)
  rw [upd_upd] at I5
  refine wpAny_pure ⟨plainId_quiet PySem.F.plain_extend_loop _, ext_loop hh nql hl hsz hq hdone zs.length 0 _ rfl I5 ?_ fp⟩
  exact (st2.at fun o e => (Heap.get?_update_other _ _ (Ne.symm niq)).trans e).at fun o e => (Heap.get?_update_other _ _ (Ne.symm niq)).trans e
/-- list(o): a new list of what the list in the field holds -/
theorem call_listOwnL {sp : Sp} (ci : ItrC X C fi fdI fld k) (cl : LenC X C fl fdL sp k) (hc : X.calm = true) (hr : Room (k + 3) X.A) :
    CallR X (.type "list") (fun xs H Q => ∃ (p dx l : Addr) (fs : List (Str × V)) (zs : List V) (m : Nat), xs = [.ref p] ∧ H p = some (.ins C dx fs) ∧ fs.lookup fld = some (.ref l) ∧ H l = some (.lst zs) ∧ zs.length ≤ 1000 ∧ m ≤ sizeLine ∧
      (∀ H', Same H H' → sp [.ref p] H' (fun v H'' => v = .int (m : Int) ∧ H'' = H') E0) ∧ ∀ q, H q = none → Q (.ref q) (upd H q (.lst zs))) := by
  intro pins s σ H xs us Q I rv h
  obtain ⟨p, dx, l, fs, zs, m, rfl, hp, hf, hl, hz, hm, hsp, hq⟩ := h
  obtain ⟨u, rfl, ru⟩ := rv.one
  cases ru
  have sb : Sub X (k + 1) X.A.in1.in1 := (Sub.in1 (Sub.in1 (⟨hr, rfl⟩ : Sub X (k + 3) X.A)))
  refine callType_codes (Q₁ := fun obj s₁ => obj = .ref s.heap.objs.size ∧ s₁ = { s with heap := s.heap.push { cls := .type "list", data := .seq #[] } }) PySem.F.called_list (PySem.F.typeCall_list_1 _) PySem.F.entry_list_init
    (code_list_new _ ⟨rfl, rfl⟩) fun obj s₁ h₁ => ?_
  obtain ⟨rfl, rfl⟩ := h₁
  have hS : (s.heap.push { cls := .type "list", data := .seq #[] }).get? s.heap.objs.size = some { cls := .type "list", data := .seq #[] } := Heap.get?_push_size _ rfl
  refine ⟨⟨_, hS, rfl⟩, PySem.F.args_list_init_2 _ _, ?_⟩
  have fr : H s.heap.objs.size = none := I.hok.fresh (Nat.le_refl _)
  have hq' := hq _ fr
  have I1 : Inv X pins σ (upd H s.heap.objs.size (.lst [])) { s with heap := s.heap.push { cls := .type "list", data := .seq #[] } } := I.lnew (its := []) (t' := s.toks) .nil (Nat.zero_le _)
  show wpAny _ _ (do let old ← Builtin.List.listItems (.ref s.heap.objs.size); Builtin.List.listUpdate (.ref s.heap.objs.size) (fun _ => #[]); letGo old.toList.reverse; Builtin.List.listExtendWith (.ref s.heap.objs.size) (.ref p) .none) _ _ _
  refine wpAny_bind ?_
  unfold Builtin.List.listItems
  refine wpAny_bind (wpAny_seqItems hS rfl (wpAny_pure ?_))
  show wpAny _ _ (updateSeq s.heap.objs.size (fun _ => #[]) >>= fun _ => letGo (#[] : Array Value).toList.reverse >>= fun _ => Builtin.List.listExtendWith (.ref s.heap.objs.size) (.ref p) .none) _ _ _
  refine wpAny_bind (wpAny_updateSeq hS rfl ?_)
  have I2 := I1.lset (f := fun _ => #[]) (its := []) (its' := []) (ys := []) (t' := s.toks) upd_same hS rfl .nil (Nat.zero_le _)
  rw [upd_upd] at I2
  refine wpAny_bind (wpAny_letGo ?_)
  have sH : Same H (upd H s.heap.objs.size (.lst [])) := fun b x e => by rw [upd_ne (ne_of_none e fr)]; exact e
  have nql : l ≠ s.heap.objs.size := ne_of_none hl fr
  refine own_extendL (A1 := X.A.in1) (Rs := wants (fun r s₂ => r = .none ∧ EP X pins σ Q (.ref s.heap.objs.size) s₂) X.xe) sb (I.ok.hd hc) ci cl I2 (sH _ _ hp) hf (sH _ _ hl) (Nat.lt_of_le_of_lt hz (by decide)) hm (hsp _ sH) upd_same nql
    (fun s' I' => ⟨rfl, .ref s.heap.objs.size, _, I', rfl, by rw [upd_upd]; exact hq'⟩) (fun e s' he => he)
end
end RO

set_option maxRecDepth 100000
set_option maxHeartbeats 2000000
namespace R6
open PySem PySem.Spec PyProof.Rows L2
/-! ### an own class made inside a try: __init__ may raise -/
section
variable {X : Cx} {CX : CXT} {k : Nat} {f C : Addr} {fd : FuncData} {ps : List Str} {ds : List Value} {dvs : List V} {sp : Sp} {E : L2.St → XK} {x : Str} {p pos : Pos} {e : Expr} {es : List Expr} {t : TA}
theorem run_makeS {pins : List (Addr × Obj)} {σ : L2.St} {H : Hp} {s : Shared} {Q : VK} {us : List Value} {vs : List V} (M : Mk X.K C f) (F : FnOk X.prog X.w X.K X.mg X.base CX k f fd ps sp) (hr : Room (k + 1) X.A) (hb : Binds X.K fd ps ds) (hd : Vals dvs ds)
    (hx : PassesAt CX X σ (E σ)) (I : Inv X pins σ H s) (r : Vals vs us)
    (h : ∀ x dx, H x = none → H dx = none → dx ≠ x → sp (.ref x :: (vs ++ dvs)) (upd (upd H dx (.own x)) x (.ins C dx [])) (fun v H2 => v = .non ∧ Q (.ref x) H2) (E σ)) :
    wpAny (model X.prog X.w) X.A (call (.ref C) us) (EP X pins σ Q) X.xe s := by
  have hq := h (s.heap.objs.size + 1) s.heap.objs.size (I.hok.fresh (Nat.le_succ _)) (I.hok.fresh (Nat.le_refl _)) (Nat.ne_of_lt (Nat.lt_succ_self _))
  have I2 := Inv.made (C := C) I
  have r2 : Vals (V.ref (s.heap.objs.size + 1) :: (vs ++ dvs)) (Value.ref (s.heap.objs.size + 1) :: (us ++ ds)) := .cons rfl (r.append hd)
  have hl : (Value.ref (s.heap.objs.size + 1) :: us ++ ds).length = ps.length := by
    have e := r2.length
    rw [F.len _ _ _ _ hq] at e
    exact e.symm
  refine wpAny_call (make_map (f := f) I.kIn M.makes M.init (beq_iff_eq.mp M.fn) (codeAny_mono (F.run _ X.stack _ _ ⟨Value.ref (s.heap.objs.size + 1) :: us, []⟩ (Value.ref (s.heap.objs.size + 1) :: (us ++ ds)) _ _ (E σ) (hr.make C us [])
    (I2.env0.make C us []) (hb _ (Value.ref (s.heap.objs.size + 1) :: us) I2.kIn hl) r2 hq) fun r s' hq' => ?_))
  cases r with
  | error e => exact hx pins _ _ e s' I2 hq'
  | ok fl =>
    cases fl with
    | ret u =>
      obtain ⟨v, H', I3, rv, ev, q3⟩ := I2.after hq'
      subst ev
      exact ⟨rv, ⟨V.ref (s.heap.objs.size + 1), H', I3, rfl, q3⟩⟩
    | next => exact False.elim hq'
    | brk => exact False.elim hq'
    | cont => exact False.elim hq'
def tMakeS (C : Addr) (sp : Sp) (dvs : List V) (E : L2.St → XK) (t : TA) : TE := fun σ H Q => t σ H fun vs H1 => ∀ x dx, H1 x = none → H1 dx = none → dx ≠ x → sp (.ref x :: (vs ++ dvs)) (upd (upd H1 dx (.own x)) x (.ins C dx [])) (fun v H2 => v = .non ∧ Q (.ref x) H2) (E σ)
theorem pe_makeS (M : Mk X.K C f) (F : FnOk X.prog X.w X.K X.mg X.base CX k f fd ps sp) (hr : Room (k + 1) X.A) (hg : Gl X x) (hm : X.mg x = some (.ref C)) (hb : Binds X.K fd ps ds) (hd : Vals dvs ds) (hx : ∀ σ, PassesAt CX X σ (E σ))
    (ha : PA X (e :: es) t) (hdb : (x == ("__debug__" : Str)) = false := by decide) (he : starEach (e :: es) X.env = (false, eval e X.env) :: starEach es X.env := by rfl) (hpl : (backTo pos (starEach es X.env)).any (·.1) = false := by rfl) :
    PE X (.Call (.Name x p) (e :: es) [] pos) (tMakeS C sp dvs E t) := by
  refine ⟨fun pins s σ H Q I h => ?_⟩
  refine wpAny_Call_Name_kw (ld_glob I hg hm ?_ hdb)
  refine PySem.W.callWith_K (h₀ := X.base) I.ok.mod.kin M.kp (thn (ha.run pos pins s σ H _ I h) fun us s1 ⟨vs, H1, I1, r, q⟩ => ⟨I1.kIn, ?_⟩) he hpl
  exact run_makeS M F hr hb hd (hx σ) I1 r q
end
end R6

set_option maxRecDepth 100000
set_option maxHeartbeats 4000000
/-! several except clauses, each with the same name behind as -/
namespace RT
open PySem PySem.Spec PyProof.Rows L2
/-- what is wanted behind a suite whose name at i is let go -/
def offD (D : Ends) (i : Nat) : Ends := { nx := fun σ H => D.nx (σ.set i none) H, rt := D.rt, bk := fun σ H => D.bk (σ.set i none) H, ct := fun σ H => D.ct (σ.set i none) H }
abbrev Cl : Type := Value × (Addr → Value → Option Addr → TS)
def wAsM (K : PySem.W.Frag) (i : Nat) (W0 : WX) (D : Ends) : List Cl → WX
  | [] => W0
  | k :: r => fun cls d σ H => ∃ b, PySem.W.exmOne K cls k.1 = some b ∧ (b = true → ∀ a, H a = none → k.2 a cls d (offD D i) (σ.set i (some (.ref a))) H) ∧ (b = false → wAsM K i W0 D r cls d σ H)
inductive AsOk (X : Cx) (n : Str) : List ExceptHandler → List Cl → Prop
  | nil : AsOk X n [] []
  | cons {x : Str} {c : Value} {ts : Addr → Value → Option Addr → TS} {b0 : Stmt} {su : List Stmt} {np p' : Pos} {hs : List ExceptHandler} {l : List Cl} (hc : Names X x c)
      (hsu : ∀ (a : Addr) (oe : Obj) (cls : Value) (d : Option Addr) (pn : List (Addr × Obj)), Zc cls d oe → (∃ vs, oe.data = .fields vs) → PSs (X.suite a ((a, oe) :: pn)) (b0 :: su) (ts a cls d))
      (r : AsOk X n hs l) : AsOk X n (.ExceptHandler (some (.Name x np)) (some n) (b0 :: su) p' :: hs) ((c, ts) :: l)
section
variable {X : Cx} {n : Str} {i : Nat} {body : List Stmt} {h0 : ExceptHandler} {hds : List ExceptHandler} {l : List Cl} {pos : Pos} {tb : WX → TS} {W0 : WX}
/-- caught, on the ground -/
structure Got (X : Cx) (pins : List (Addr × Obj)) (σ : L2.St) (H : Hp) (a : Addr) (B : Heap) (sI s3 : Shared) (cls : Value) (d : Option Addr) : Prop where
  inv : Inv X pins σ H sI
  nb : ∀ b o, sI.heap.get? b = some o → b ∉ frs X.stack → B.get? b = some o
  up : sI.heap.UpToSlots s3.heap
  fl : HandSPX.FlyingZ B (X.env :: X.outer) a (Zc cls d) s3.heap
  na : H a = none
  os : s3.os = sI.os
  ag : AllBare s3.gens
theorem Got.notFrame {pins : List (Addr × Obj)} {σ : L2.St} {H : Hp} {a : Addr} {B : Heap} {sI s3 : Shared} {cls : Value} {d : Option Addr} (g : Got X pins σ H a B sI s3 cls d) (hf : X.env.frame = some X.env.locals) : a ≠ X.env.locals ∧ a ∉ X.fs := by
  obtain ⟨oe, vs, e1, _, e3⟩ := g.fl.there
  have nfr : a ∉ frs (X.env :: X.outer) := fun hm => by
    obtain ⟨_, o, e, hnf⟩ := g.fl.2.2.1.mem hm
    rw [e1] at e; cases e; exact hnf _ e3
  refine ⟨fun z => nfr (List.mem_filterMap.mpr ⟨_, List.mem_cons_self, hf.trans (congrArg some z.symm)⟩), fun hm => ?_⟩
  obtain ⟨e, y1, y2⟩ := List.mem_filterMap.mp hm
  exact nfr (List.mem_filterMap.mpr ⟨e, List.mem_cons_of_mem _ y1, y2⟩)
theorem clauses (hs : X.stack = X.env :: X.outer) (hf : X.env.frame = some X.env.locals) (hN : X.N.Nodup) (hi : X.N[i]? = some n) (hln : X.env.kindOf n = some .local) (tk : Takes X W0) {D : Ends}
    {pins : List (Addr × Obj)} {σ : L2.St} {H : Hp} {a : Addr} {B : Heap} {sI s3 : Shared} {cls : Value} {d : Option Addr} (ok : X.Ok) (g : Got X pins σ H a B sI s3 cls d) :
    ∀ {hl : List ExceptHandler} {cl : List Cl}, AsOk X n hl cl → wAsM X.K i W0 D cl cls d σ H → wpAny (model X.prog X.w) X.A (handleBy (.ref a) X.env hl) (SP X pins D) X.xe s3 := by
  intro hl cl hk
  obtain ⟨nL, nF⟩ := g.notFrame hf
  have I3 : Inv X pins σ H s3 := g.inv.landed g.nb g.fl.1 g.up g.os g.ag
  obtain ⟨o3, v3, x3, z3, d3⟩ := g.fl.there
  have S3 := I3.suite x3 d3 g.na nL nF
  induction hk with
  | nil =>
    intro wv
    refine wpAny_handleBy_nil ?_
    obtain ⟨_, _, _, oe, vs, T, _, _, y1, _, y3, y4, _⟩ := id g.fl
    unfold PySem.passOn
    refine wpAny_bind (wpAny_field y1 y3 y4 ?_)
    rw [if_neg (show ¬ ((Value.ref T == Value.none) = true) by simp), hf]
    refine wpAny_bind (HandSPX.setFlight_upZ g.fl fun h4 hh up => wpAny_throw (tk _ _ ?_))
    exact ⟨a, B, sI, pins, σ, H, cls, d, rfl, g.inv, g.nb, g.up.trans up, .inr (.inr (by rw [hs]; exact hh)), g.na, g.os, g.ag, wv⟩
  | @cons x c ts b0 su np p' hs2 l2 hc hsu r ih =>
    rintro ⟨b, hb, yes, no⟩
    refine wpAny_handleBy_cons (codeAny_handlers_test ?_) (by intro q; cases q)
    have tyE : PySem.W.Looks (model X.prog X.w) s3.heap (typeOf (.ref a)) cls := fun _ _ _ _ k q => wpAny_typeOf_ref (k _ _ x3) (by rw [z3.1]; exact q)
    have exm := PySem.W.exm_one (M := model X.prog X.w) I3.kIn tyE hb
    have nm : ∀ {Q : Value → Shared → Prop} {E : Value → Shared → Prop}, Q c s3 → wpAny (model X.prog X.w) (X.A.mark (some (.ref a))) (eval (.Name x np) X.env) Q E s3 := fun q => by
      obtain ⟨w1, w2, w3 | ⟨w3, w4, w5⟩⟩ := hc
      · exact ld_glob (X := X.suite a ((a, o3) :: (X.pn ++ pins))) S3 w1 w3 q w2
      · exact ld_blt (X := X.suite a ((a, o3) :: (X.pn ++ pins))) S3 w1 w3 w4 q w5 w2
    refine nm (exm.here ?_)
    cases b with
    | false => exact ih (no rfl)
    | true =>
      refine codeAny_handlers_suite_as (HandSPX.lands_againZ g.fl fun h4 fl4 up4 => ?_)
      have I4 : Inv X pins σ H { s3 with heap := h4 } := g.inv.landed g.nb fl4.1 (g.up.trans up4) g.os g.ag
      obtain ⟨o4, v4, x4, z4, d4⟩ := fl4.there
      refine store_ok (X := X.suite a ((a, o4) :: (X.pn ++ pins))) (v := .ref a) (I4.suite x4 d4 g.na nL nF) hN hi (.inl hln) rfl (fun s5 S5 => ?_) (.inr hln)
      refine wpAny_mono ((hsu a o4 cls d (X.pn ++ pins) z4 ⟨_, d4⟩).run [] s5 _ H _ S5 (yes rfl a g.na)) (fun fl s6 sp => ?_) (fun _ _ z => z.elim)
      have off : ∀ {σ' : L2.St} {H' : Hp} {Q : Shared → Prop}, Inv (X.suite a ((a, o4) :: (X.pn ++ pins))) [] σ' H' s6 → (∀ s7, Inv X pins (σ'.set i none) H' s7 → Q s7) →
          wpAny (model X.prog X.w) X.A (do bindName X.env n .none; unbindBehindTheSuite X.env n p') (fun _ s7 => Q s7) X.xe s6 := fun y q => gone_ok (y.unsuite ok) hN hi hln q
      cases fl with
      | next => obtain ⟨_, _, y, q⟩ := sp; exact off y fun _ j => ⟨_, _, j, q⟩
      | brk => obtain ⟨_, _, y, q⟩ := sp; exact off y fun _ j => ⟨_, _, j, q⟩
      | cont => obtain ⟨_, _, y, q⟩ := sp; exact off y fun _ j => ⟨_, _, j, q⟩
      | ret u => obtain ⟨_, _, _, y, rr, q⟩ := sp; exact off y fun _ j => ⟨_, _, _, j, rr, q⟩
theorem ps_try_asM (hs : X.stack = X.env :: X.outer) (hf : X.env.frame = some X.env.locals) (hN : X.N.Nodup) (hi : X.N[i]? = some n) (hln : X.env.kindOf n = some .local) (tk : Takes X W0)
    (hb : ∀ (W : WX) (pn : List (Addr × Obj)) (xe : Value → Shared → Prop), Takes (X.tr pn xe) W → PassesOwn (model X.prog X.w) X.A X.env xe → PSs (X.tr pn xe) body (tb W)) (hh : AsOk X n (h0 :: hds) l) :
    PS X (.Try body (h0 :: hds) [] [] pos) (fun D σ H => tb (wAsM X.K i W0 D l) D σ H) := by
  refine ⟨fun pins s σ H D I h => ?_⟩
  have ok := I.ok
  refine wpAny_Try_except ?_
  have run := (hb (wAsM X.K i W0 D l) (X.pn ++ pins) (fun e s1 => wpAny (model X.prog X.w) X.A (noteFrame e X.env) (fun _ s2 => wpAny (model X.prog X.w) X.A (setFlight e none) (fun _ s3 => wpAny (model X.prog X.w) X.A (handleBy e X.env (h0 :: hds)) (SP X pins D) X.xe s3) X.xe s2) X.xe s1)
    (fun u s' xx => by
      obtain ⟨a, B, sI, pins', σ', H', cls, d, rfl, J, nb, up, sky, na, os, ag, wv⟩ := xx
      have sky' : Sky B (X.env :: X.outer) a (Zc cls d) X.env.locals s'.heap := by rw [← hs]; exact sky
      show wpAny (model X.prog X.w) X.A (noteFrame (.ref a) X.env) _ _ _
      refine Sky.land Zc.steady (ok.frames.trans (congrArg some hs)) hf sky' fun h3 fl3 up3 => ?_
      exact clauses hs hf hN hi hln tk ok (s3 := { s' with heap := h3 }) ⟨J.ofTry ok, nb, up.trans up3, fl3, na, os, ag⟩ hh wv) PassesOwn.looking).run [] s σ H D (I.toTry _) h
  refine wpAny_mono run (fun f s1 sp => ?_) (fun _ _ z => z)
  cases f with
  | next => obtain ⟨_, _, y, q⟩ := sp; exact wpAny_execs_nil ⟨_, _, y.ofTry ok, q⟩
  | brk => obtain ⟨_, _, y, q⟩ := sp; exact ⟨_, _, y.ofTry ok, q⟩
  | cont => obtain ⟨_, _, y, q⟩ := sp; exact ⟨_, _, y.ofTry ok, q⟩
  | ret u => obtain ⟨_, _, _, y, rr, q⟩ := sp; exact ⟨_, _, _, y.ofTry ok, rr, q⟩
end
end RT

set_option maxRecDepth 100000
set_option maxHeartbeats 4000000
/-! own `in`; an own instance called with keywords -/
namespace RI
open PySem PySem.Spec PyProof.Rows L2 PySem.W
section
variable {M : Model} {A : Around} {E : Value → Shared → Prop} {s : Shared} {K : Frag} {a C f : Addr} {ox : Obj} {od : Option Obj}
theorem contains_own {v : Value} {Q : Bool → Shared → Prop} (X : K.In s.heap) (I : InstAt s.heap a ox C od) (hs : findIn K (.ref C) "__contains__" = some (some (.ref f))) (hf : typeIn K (.ref f) = some (.type "function"))
    (h : wpAny M A (call (.ref f) [.ref a, v]) (fun r s' => wpAny M A (truthy r) Q E s') E s) : wpAny M A (contains (.ref a) v) Q E s := by
  unfold contains
  refine wpAny_holding ?_
  rw [show stdlibNamesSay? (.ref a) v = none from rfl]
  have look : Looks M s.heap (specialOf (.ref a) "__contains__") (some (.ref f)) := I.type.andThen (looks_findIn X hs)
  refine wpAny_bind (look.here ?_)
  show wpAny M A (if (some (Value.ref f) == some Value.none) = true then _ else _) Q E s
  rw [if_neg (by simp)]
  refine wpAny_bind ?_
  unfold callSpecialUnlessNone?
  refine wpAny_bind (look.here (wpAny_holding (wpAny_bind ((bind_fn X (.ref a) hf).here ?_))))
  show wpAny M A (if ((Value.ref f) == Value.none) = true then _ else _) _ E s
  rw [if_neg (by simp)]
  refine wpAny_bind ?_
  exact wpAny_mono h (fun r s' z => wpAny_pure z) fun _ _ z => z
end
section
variable {X : Cx} {C f : Addr} {k : Nat} {CX : CXT} {fd : FuncData} {ps : List Str} {sp : Sp} {E : XK}
/-- v in o, o of an own class whose own __contains__ says a bool -/
def rInOwn (C : Addr) (sp : Sp) (E : XK) : R2 := fun x y H Q => ∃ a dx fs, y = .ref a ∧ H a = some (.ins C dx fs) ∧ sp [.ref a, x] H (fun v H' => ∃ r, v = .bl r ∧ Q (.bl r) H') E
theorem op_inOwn (F : FnOk X.prog X.w X.K X.mg X.base CX k f fd ps sp) (hs : findIn X.K (.ref C) "__contains__" = some (some (.ref f))) (hf : typeIn X.K (.ref f) = some (.type "function")) (hb : Binds X.K fd ps []) (hr : Room k X.A) (hx : Passes CX X E) :
    OpR X (compareOp .In) (rInOwn C sp E) := by
  intro pins s σ H x y v u Q I rx ry h
  obtain ⟨a, dx, fs, rfl, ha, hsp⟩ := h
  cases (show u = Value.ref a from ry)
  obtain ⟨mA, J, _⟩ := ins_get I.hok ha
  obtain ⟨od, J, _⟩ := J.look
  have hl := F.len _ _ _ _ hsp
  have r2 : Vals [V.ref a, x] [Value.ref a, v] := .cons rfl (.cons rx .nil)
  show wpAny (model X.prog X.w) X.A (do return .bool (← contains (.ref a) v)) (EP X pins σ Q) X.xe s
  refine wpAny_bind (contains_own I.kIn J hs hf (wpAny_call (codeAny_mono (F.run X.A X.stack s H ⟨[.ref a, v], []⟩ [.ref a, v] [.ref a, x] _ E hr I.env0 (by
    have := hb s [.ref a, v] I.kIn (by simpa using hl)
    simpa using this) r2 hsp) fun r s' hq => ?_)))
  cases r with
  | error e => exact hx pins σ H s e s' I hq
  | ok fl =>
    cases fl with
    | ret w =>
      obtain ⟨z, H', I', rz, r, ez, q⟩ := I.after hq
      subst ez
      cases rz
      exact wpAny_pure (wpAny_pure ⟨.bl r, H', I', rfl, q⟩)
    | next => exact False.elim hq
    | brk => exact False.elim hq
    | cont => exact False.elim hq
/-- o(e, .., k = v, ..) -/
def tCallON (X : Cx) (C : Addr) (n m : Nat) (sp : Sp) (gV : List V → List V → List V) (E : XK) (tf : TE) (t tk : TA) : TE := fun σ H Q => tf σ H fun y H1 => ∃ a, y = V.ref a ∧ t σ H1 fun vs H2 => tk σ H2 fun zs H3 =>
  vs.length = n ∧ zs.length = m ∧ (∃ dx fs, H3 a = some (.ins C dx fs)) ∧ sp (gV (V.ref a :: vs) zs) H3 Q E
theorem pe_callON {n : Nat} {ks : List Str} {fe e : Expr} {es : List Expr} {kws : List Keyword} {pos : Pos} {tf : TE} {t tk : TA} {g : List Value → List Value → List Value} {gV : List V → List V → List V} (hf : PE X fe tf) (c : StX.CallO X.K C f)
    (F : FnOk X.prog X.w X.K X.mg X.base CX k f fd ps sp) (hr : Room k X.A) (hb : KBn X.K fd ps (n + 1) ks g gV) (hx : Passes CX X E) (ha : PA X (e :: es) t) (hkw : PK X kws tk)
    (hall : (backToKw pos (keywordEach kws X.env)).all (·.1.isSome) = true := by rfl) (hks : (backToKw pos (keywordEach kws X.env)).filterMap (·.1) = ks := by rfl)
    (ht : eval (.Call fe (e :: es) kws pos) X.env = (do callWith pos (← eval fe X.env) [] (backTo pos (starEach (e :: es) X.env)) (backToKw pos (keywordEach kws X.env))) := by rfl)
    (he : starEach (e :: es) X.env = (false, eval e X.env) :: starEach es X.env := by rfl)
    (hpl : ((backTo pos (starEach (e :: es) X.env)).any (·.1) || (backToKw pos (keywordEach kws X.env)).any (·.1.isNone)) = false := by rfl) :
    PE X (.Call fe (e :: es) kws pos) (tCallON X C n ks.length sp gV E tf t tk) := by
  refine ⟨fun pins s σ H Q I h => ?_⟩
  rw [ht]
  refine wpAny_bind (thn (hf.run pins s σ H _ I h) fun u s1 hu => ?_)
  obtain ⟨y, H1, I1, ry, a, rfl, q⟩ := hu
  obtain rfl : u = Value.ref a := ry
  unfold callWith
  refine wpAny_bind (wpAny_holding ?_)
  refine evalArgs_kw2 hall (thn (ha.run pos pins s1 σ H1 _ I1 q) fun us s2 h2 => ?_) he
  obtain ⟨vs, H2, I2, r, q2⟩ := h2
  refine thn (hkw.run pos pins s2 σ H2 _ I2 q2) fun ws s3 h3 => ?_
  obtain ⟨zs, H3, I3, rz, l1, l2, ⟨dx, fs, ha3⟩, hsp⟩ := h3
  refine wpAny_bind (wpAny_standAt ?_)
  obtain ⟨mA, O, _⟩ := ins_get I3.hok ha3
  obtain ⟨od, J, _⟩ := O.look
  have keep := kco_keeper (M := model X.prog X.w) J rfl
  simp only [hpl]
  refine wpAny_bind (keep.here ?_)
  have r1 : Vals (V.ref a :: vs) (Value.ref a :: us) := .cons rfl r
  have run : wpAny (model X.prog X.w) X.A (call (.ref a) us (ks.zip ws)) (EP X pins σ Q) X.xe s3 := by
    refine wpAny_call (kco_code I3.kIn J rfl c.at_ c.fn c.fi ?_)
    refine codeAny_mono (F.run X.A X.stack s3 H3 ⟨.ref a :: us, ks.zip ws⟩ (g (.ref a :: us) ws) _ Q E hr I3.env0 (hb.to _ _ ws I3.kIn (by rw [← r1.length, List.length_cons, l1]) (by rw [← rz.length, l2])) (hb.rel r1 rz) hsp) fun r s' hq => ?_
    cases r with
    | error e => exact hx pins σ H3 s3 e s' I3 hq
    | ok fl =>
      cases fl with
      | ret u => exact I3.after hq
      | next => exact False.elim hq
      | brk => exact False.elim hq
      | cont => exact False.elim hq
  rw [hks]
  have go : ∀ {t : Sem Value}, wpAny (model X.prog X.w) X.A t (EP X pins σ Q) X.xe s3 → wpAny (model X.prog X.w) X.A (t >>= fun r => holding [r] point >>= fun _ => pure r) (EP X pins σ Q) X.xe s3 :=
    fun hh => wpAny_bind (wpAny_mono hh (fun _ _ hz => wpAny_bind (wpAny_holding (wpAny_point (wpAny_pure hz)))) fun _ _ z => z)
  exact go (wpAny_operateT run)
end
end RI

set_option maxRecDepth 100000
set_option maxHeartbeats 2000000
/-! list(o) where o's own __iter__ returns iter(d) of a dict in a field -/
namespace RK
open PySem PySem.Spec PyProof.Rows L2 ItX RO
abbrev kitObj (d : Addr) (n ep : Nat) : Obj := { cls := .type "dict_keyiterator", data := .fields #[.ref d, .int (0 : Nat) 0, .int n 0, .int ep 0] }
def KitO (d it n ep : Nat) : HO := .ext fun h => h.get? it = some (kitObj d n ep)
theorem kitO_ok {P : Program} {w : World} {H : Hp} {h : Heap} {d it n ep : Nat} (e : h.get? it = some (kitObj d n ep)) : ObjOk P w H h it (KitO d it n ep) := ⟨e, ⟨_, e⟩, fun h1 h2 q k => k _ q⟩
section
variable {X : Cx}
/-- iter(d) of a locked dict -/
theorem call_iterK : CallR X (.builtin "iter") (fun xs H Q => ∃ (d : Addr) (o : Obj) (kvs : List (Key × V)), xs = [.ref d] ∧ H d = some (.frz o (.dK kvs)) ∧
    ∀ it es ep, o.data = .dict es ep → H it = Option.none → X.s_0.heap.objs.size ≤ it → Q (.ref it) (upd H it (KitO d it kvs.length ep))) := by
  intro pins s σ H xs us Q I r h
  obtain ⟨d, o, kvs, rfl, hd, q⟩ := h
  obtain ⟨u, rfl, ru⟩ := vals1 r
  cases ru
  obtain ⟨hs, hgd, hx, es, ep, vs, hdt, hsz, kv, hm⟩ := I.frzK hd
  refine Calls.call_function_entry (by decide +kernel) (by decide +kernel) PySem.W.kdk_entry_iter (PySem.W.kdk_args_iter _) ?_
  unfold Builtin.«iter»
  refine wpAny_bind (m := someArgs "iter" 1 2 _) (wpAny_of_eq (a := [Value.ref d]) (by first | rfl | kernel_rfl!) ?_)
  show wpAny _ _ (pyIter (.ref d) >>= _) _ _ _
  refine wpAny_bind (iter_keys hs hgd hx hdt ?_)
  refine wpAny_pure ⟨_, rfl, ?_⟩
  have q' := q s.heap.objs.size es ep hdt (I.hok.fresh (Nat.le_refl _)) I.sz
  rw [hsz]
  exact ⟨.ref s.heap.objs.size, _, I.laid (t' := s.toks) (fun b u e => Heap.get?_push_of_some _ e) (Nat.le_refl _) (kitO_ok (Heap.get?_push_size _ rfl)), rfl, q'⟩
end
/-- __iter__ hands back a new iterator over the locked dict in a field -/
def spItK (C : Addr) (fld : Str) (n : Nat) : Sp := fun vs H Q _ => ∃ (p dx d : Addr) (fs : List (Str × V)) (o : Obj) (kvs : List (Key × V)), vs = [.ref p] ∧ H p = some (.ins C dx fs) ∧ fs.lookup fld = some (.ref d) ∧ H d = some (.frz o (.dK kvs)) ∧
  ∀ it es ep, o.data = .dict es ep → H it = none → n ≤ it → Q (.ref it) (upd H it (KitO d it kvs.length ep))
structure ItrK (X : Cx) (C fi : Addr) (fdI : FuncData) (fld : Str) (k : Nat) : Prop where
  it : PySem.W.findIn X.K (.ref C) "__iter__" = some (some (.ref fi))
  itF : PySem.W.isFn X.K (.ref fi) = true
  fn : FnN X.prog X.w X.K X.mg X.base CX0 k fi fdI ["self"] (spItK C fld)
  bi : Binds X.K fdI ["self"] []
section
variable {X : Cx} {pins : List (Addr × Obj)} {σ : L2.St} {H : Hp} {s : Shared} {A1 : Around} {C fi fl p dx d : Addr} {fdI fdL : FuncData} {fld : Str} {k : Nat} {fs : List (Str × V)} {o : Obj} {kvs : List (Key × V)}
/-- iter(o) -/
theorem own_iterK {Q : Value → Shared → Prop} (sb : Sub X k A1) (c : ItrK X C fi fdI fld k) (I : Inv X pins σ H s) (hp : H p = some (.ins C dx fs)) (hf : fs.lookup fld = some (.ref d)) (hd : H d = some (.frz o (.dK kvs)))
    (h : ∀ it es ep s', o.data = .dict es ep → H it = none → s.heap.objs.size ≤ it → s'.heap.get? it = some (kitObj d kvs.length ep) → Inv X pins σ H s' → Q (.ref it) s') : wpAny (model X.prog X.w) A1 (pyIter (.ref p)) Q X.xe s := by
  obtain ⟨mA, J, _⟩ := ins_get I.hok hp
  obtain ⟨od, J, _⟩ := J.look
  obtain ⟨m0, hF⟩ := I.fr
  refine PySem.W.owit_iter hF I.ok.mod.kin J c.it c.itF ?_
  have hsp : spItK C fld s.heap.objs.size [.ref p] H (fun v H' => ∃ it es ep, v = .ref it ∧ o.data = .dict es ep ∧ H it = none ∧ s.heap.objs.size ≤ it ∧ H' = upd H it (KitO d it kvs.length ep)) E0 := ⟨p, dx, d, fs, o, kvs, rfl, hp, hf, hd, fun it es ep h0 h1 h2 => ⟨it, es, ep, rfl, h0, h1, h2, rfl⟩⟩
  have r2 : Vals [V.ref p] [Value.ref p] := .cons rfl .nil
  refine wpAny_call (codeAny_mono (c.fn.run A1 X.stack s H ⟨[.ref p], []⟩ [.ref p] [.ref p] _ E0 sb.room (env_sub I sb) (by
    have := c.bi s [.ref p] I.kIn rfl
    simpa using this) r2 hsp) fun r s' hq => ?_)
  cases r with
  | error e => exact absurd hq (fun z => z.elim)
  | ok fl =>
    cases fl with
    | next => exact False.elim hq
    | brk => exact False.elim hq
    | cont => exact False.elim hq
    | ret u =>
      obtain ⟨v, H', I', rv, it, es, ep, rfl, hdt, hn, hsz, rfl⟩ := I.after hq
      cases rv
      have eo : s'.heap.get? it = some (kitObj d kvs.length ep) := (I'.hok it _ upd_same).1
      have I2 := inv_drop I' (show upd H it (KitO d it kvs.length ep) it = some (.ext _) from upd_same)
      rw [dropH_upd hn] at I2
      have hT : s'.TypeIs (.ref it) "dict_keyiterator" := ⟨_, eo, rfl⟩
      unfold PySem.W.OwitIt
      exact wpAny_specialOf (name := Str.ofString "__next__") hT PySem.F.slot_dict_keyiterator_next.lookup (h it es ep s' hdt hn hsz eo I2)
/-! ### list(o) -/
theorem ext_loopK {q it : Addr} {es : Array DictEntry} {ep : Nat} {Rs : Result → Shared → Prop} (hh : A1.in1.handled = none) (ndq : d ≠ q) (hd : H d = some (.frz o (.dK kvs))) (hdt : o.data = .dict es ep) (hsz : kvs.length < sizeLine) (hq0 : H q = some (.lst []))
    (hdone : ∀ s, Inv X pins σ (upd H q (.lst (kvs.map fun kv => kV kv.1))) s → Rs (.ok (.ret .none)) s) :
    ∀ (n i : Nat) (s : Shared), n + i = kvs.length → Inv X pins σ (upd H q (.lst ((kvs.map fun kv => kV kv.1).take i))) s → s.heap.IsKeyIter it d i kvs.length ep → FpOk X pins H it →
      codeAny (model X.prog X.w) A1 (.builtin "list.extend.loop" ⟨[.ref q, .ref it, .none], []⟩) Rs s := by
  intro n
  induction n with
  | zero =>
    intro i s hi I st fp
    refine codeAny_builtin PySem.F.entry_extend_loop ?_
    rw [Around.under_plainId PySem.F.plain_extend_loop _]
    show wpAny _ A1.in1 (pyNext (.ref it) >>= _) _ _ s
    have hd' : upd H q (.lst ((kvs.map fun kv => kV kv.1).take i)) d = some (.frz o (.dK kvs)) := by rw [upd_ne ndq]; exact hd
    obtain ⟨hs, hgd, hx, es', ep', vs, hdt', hsz', kv, hm⟩ := I.frzK hd'
    obtain ⟨rfl, rfl⟩ := dict_ep hdt hdt'
    obtain ⟨f0, f1, f2, f3, f4, f5⟩ := fp
    have niq : it ≠ q := fun e => by rw [e, hq0] at f0; cases f0
    have e1 : (kvs.map fun kv => kV kv.1).take i = kvs.map fun kv => kV kv.1 := List.take_of_length_le (by rw [List.length_map]; omega)
    refine wpAny_bind (next_key_end hh st hgd hdt hsz' (by omega) fun h' eb => ?_)
    rw [e1] at I
    have I' : Inv X pins σ (upd H q (.lst (kvs.map fun kv => kV kv.1))) { s with heap := h' } := I.turned (t' := s.toks) (fun b o hb e => eb b o hb e) (by rw [upd_ne niq]; exact f0) f1 f3 f4 f5
    exact wpAny_pure (hdone _ I')
  | succ n ih =>
    intro i s hi I st fp
    refine codeAny_builtin PySem.F.entry_extend_loop ?_
    rw [Around.under_plainId PySem.F.plain_extend_loop _]
    show wpAny _ A1.in1 (pyNext (.ref it) >>= _) _ _ s
    have hd' : upd H q (.lst ((kvs.map fun kv => kV kv.1).take i)) d = some (.frz o (.dK kvs)) := by rw [upd_ne ndq]; exact hd
    obtain ⟨hs, hgd, hx, es', ep', vs, hdt', hsz', kv, hm⟩ := I.frzK hd'
    obtain ⟨rfl, rfl⟩ := dict_ep hdt hdt'
    obtain ⟨f0, f1, f2, f3, f4, f5⟩ := id fp
    have niq : it ≠ q := fun e => by rw [e, hq0] at f0; cases f0
    have hil : i < kvs.length := by omega
    obtain ⟨⟨k0, v0⟩, hkv⟩ : ∃ p, kvs[i]? = some p := ⟨kvs[i], List.getElem?_eq_getElem hil⟩
    obtain ⟨u, hu, ru⟩ := kv_get kv hkv
    have hl : kvs.length = vs.length := Paired.length kv
    have st0 := st
    rw [hl] at st0
    refine wpAny_bind (wpAny_pyNext_dict_item st0 hm hu fun key h' hkey st' sb => ?_)
    rw [← hl] at st'
    have I1 : Inv X pins σ (upd H q (.lst ((kvs.map fun kv => kV kv.1).take i))) { s with heap := h' } := I.turned (t' := s.toks) (fun b o hb e => (sb.2 b hb).trans e) (by rw [upd_ne niq]; exact f0) f1 f3 f4 f5
    have ru2 : RelV (kV k0) key := relV_key (show keyIs k0 key = true from hkey)
    show wpAny _ A1.in1 (updateSeq q (·.push key) >>= _) _ _ _
    obtain ⟨z, its2, kk, r2, hl2, e2⟩ := I1.lstM upd_same
    have hlt : ((kvs.map fun kv => kV kv.1).take i).length = i := by rw [List.length_take, List.length_map]; omega
    refine wpAny_bind (wpAny_updateSeq e2 rfl (wpAny_pure ⟨plainId_quiet PySem.F.plain_extend_loop _, ?_⟩) (by rw [List.size_toArray, ← hl2, hlt]; omega) (by show (its2.toArray.push key).size ≤ sizeLine + 1; rw [Array.size_push, List.size_toArray, ← hl2, hlt]; omega))
    have e3 : (kvs.map fun kv => kV kv.1).take (i + 1) = (kvs.map fun kv => kV kv.1).take i ++ [kV k0] := by rw [List.take_add_one, List.getElem?_map, hkv]; rfl
    have I2 := I1.lset (f := (·.push key)) (its' := its2 ++ [key]) (ys := (kvs.map fun kv => kV kv.1).take (i + 1)) (t' := s.toks) upd_same e2 (by simp) (by rw [e3]; exact r2.append (.cons ru2 .nil)) (by rw [List.length_take, List.length_map]; omega)
    rw [upd_upd] at I2
    refine ih (i + 1) _ (by omega) I2 (st'.at fun o e => ?_) fp
    exact (Heap.get?_update_other _ _ (Ne.symm niq)).trans e
theorem own_extendK {q : Addr} {Rs : Result → Shared → Prop} {sp : Sp} {m : Nat} (sb : Sub X (k + 1) A1.in1) (hh : A1.in1.handled = none) (ci : ItrK X C fi fdI fld k) (cl : LenC X C fl fdL sp k) (I : Inv X pins σ H s) (hp : H p = some (.ins C dx fs)) (hf : fs.lookup fld = some (.ref d)) (hd : H d = some (.frz o (.dK kvs))) (hsz : kvs.length < sizeLine)
    (hm : m ≤ sizeLine) (hsp : sp [.ref p] H (fun v H' => v = .int (m : Int) ∧ H' = H) E0) (hq : H q = some (.lst [])) (ndq : d ≠ q) (hdone : ∀ s, Inv X pins σ (upd H q (.lst (kvs.map fun kv => kV kv.1))) s → Rs (.ok (.ret .none)) s) (herr : ∀ e s, X.xe e s → Rs (.error e) s) :
    wpAny (model X.prog X.w) A1.in1 (Builtin.List.listExtendWith (.ref q) (.ref p) .none)
      (fun fin s' => match fin with | .done f => Rs (.ok f) s' | .again c' => c'.quiet = true ∧ codeAny (model X.prog X.w) A1 c' Rs s') (fun e s' => Rs (.error e) s') s := by
  have hne : q ≠ p := ne_of hq hp (fun z => nomatch z)
  obtain ⟨mA, J, _⟩ := ins_get I.hok hp
  obtain ⟨od, J, _⟩ := J.look
  unfold Builtin.List.listExtendWith
  refine wpAny_bind (J.type.here ?_)
  have h1 : Builtin.List.listSameRef (.ref q) (.ref p) = false := by simp [Builtin.List.listSameRef, hne]
  have h2 : (Value.ref C == Value.type "list") = false := rfl
  have h3 : (Value.ref C == Value.type "tuple") = false := rfl
  simp only [h1, h2, h3, Bool.or_false, Bool.false_eq_true, if_false]
  refine wpAny_bind (wpAny_mono (own_iterK (Q := fun v s' => ∃ it es ep, v = .ref it ∧ o.data = .dict es ep ∧ H it = none ∧ s.heap.objs.size ≤ it ∧ s'.heap.get? it = some (kitObj d kvs.length ep) ∧ Inv X pins σ H s') (sb.mono (Nat.le_succ k)) ci I hp hf hd fun it es ep s' z a b c e => ⟨it, es, ep, rfl, z, a, b, c, e⟩) (fun v s' hv => ?_) fun e s' he => herr e s' he)
  obtain ⟨it, es, ep, rfl, hdt, hn, hge, eo, I'⟩ := hv
  have fp : FpOk X pins H it := I.fpOk hge hn
  have niq : it ≠ q := fun e => by rw [e, hq] at hn; cases hn
  have hint : wpAny (model X.prog X.w) A1.in1 (Builtin.List.listLengthHint (.ref p)) (fun b s2 => Inv X pins σ H s2 ∧ s2.heap.IsKeyIter it d 0 kvs.length ep) (fun e s' => Rs (.error e) s') s' := by
    obtain ⟨mA', J', _⟩ := ins_get I'.hok hp
    obtain ⟨od', J', _⟩ := J'.look
    have IP : Inv X ((it, kitObj d kvs.length ep) :: pins) σ H s' := I'.pins_of fun r hr => by
      rcases List.mem_cons.mp hr with e | hr
      · rw [e]
        exact ⟨eo, hn, fp.2.1, fp.2.2.1, fun v z => by cases z⟩
      · exact I'.pin r (List.mem_append_right _ hr)
    unfold Builtin.List.listLengthHint
    refine wpAny_bind (wpAny_bind (J'.type.here ((PySem.W.looks_findIn I'.kIn cl.at_).here ?_)))
    refine PySem.W.KFB.if_not rfl ?_
    refine PySem.W.KFB.if_so rfl ?_
    refine wpAny_bind (wpAny_rule ?_)
    refine wpAny_bind (wpAny_attempt ?_)
    refine wpAny_mono (own_len (Q := fun v s2 => ∃ t, v = .int (m : Int) t ∧ Inv X ((it, kitObj d kvs.length ep) :: pins) σ H s2) (E' := fun _ _ => False) (Sub.in1 sb) cl.at_ cl.ty cl.fn cl.bi IP hp hm hsp fun t s2 h => ⟨t, rfl, h⟩) (fun v s2 hv => ?_) (fun e s2 he => he.elim)
    obtain ⟨t, rfl, I2⟩ := hv
    refine wpAny_bind (m := asInt? (.int (m : Int) t)) (wpAny_pure ?_)
    refine PySem.W.KFB.if_not (notLongL (by rw [Int.toNat_natCast]; exact hm)) ?_
    have eo2 := (I2.pin (it, kitObj d kvs.length ep) (List.mem_append_right _ List.mem_cons_self)).1
    exact wpAny_pure ⟨I2.pins_of fun r hr => I2.pin r (List.mem_append_right _ (List.mem_cons_of_mem _ hr)), _, eo2, rfl, rfl⟩
  refine wpAny_bind (wpAny_holding (wpAny_mono hint (fun room s2 hr => ?_) fun _ _ z => z))
  obtain ⟨I2, st2⟩ := hr
  have hupd : upd H q (.lst ((kvs.map fun kv => kV kv.1).take 0)) = H := by
    funext b
    by_cases hb : b = q
    · rw [hb, upd_same, hq]; rfl
    · rw [upd_ne hb]
  obtain ⟨z, its, k3, r3, hl3, e3⟩ := I2.lstM hq
  cases r3
  refine wpAny_ite_split (fun _ => ?_) (fun _ => wpAny_pure ⟨plainId_quiet PySem.F.plain_extend_loop _, ext_loopK hh ndq hd hdt hsz hq hdone kvs.length 0 s2 rfl (by rw [hupd]; exact I2) st2 fp⟩)
  refine wpAny_bind (wpAny_rule ?_)
  refine wpAny_bind ?_
  show wpAny _ _ (updateSeq q (·.push .none) >>= fun _ => updateSeq q (·.pop)) _ _ _
  refine wpAny_bind (wpAny_updateSeq e3 rfl ?_)
  have I4 := I2.lset (f := (·.push Value.none)) (its' := [Value.none]) (ys := [.non]) (t' := s2.toks) hq e3 (by simp) (.cons rfl .nil) (by rw [List.length_singleton, sizeLine_eq]; decide)
  obtain ⟨z4, its4, k4, r4, hl4, e4⟩ := I4.lstM upd_same
  obtain ⟨u4, rfl, ru4⟩ := r4.one
  refine wpAny_updateSeq e4 rfl ?_ (by show 1 ≤ sizeLine; rw [sizeLine_eq]; decide) (by show 0 ≤ sizeLine + 1; exact Nat.zero_le _)
  have I5 := I4.lset (f := (·.pop)) (its := [u4]) (its' := []) (ys := []) (t' := s2.toks) upd_same e4 (by rfl) .nil (Nat.zero_le _)
  rw [upd_upd] at I5
  refine wpAny_pure ⟨plainId_quiet PySem.F.plain_extend_loop _, ext_loopK hh ndq hd hdt hsz hq hdone kvs.length 0 _ rfl I5 ?_ fp⟩
  exact (st2.at fun o e => (Heap.get?_update_other _ _ (Ne.symm niq)).trans e).at fun o e => (Heap.get?_update_other _ _ (Ne.symm niq)).trans e
/-- list(o): a new list of the keys of the dict in the field -/
theorem call_listOwnK {sp : Sp} (ci : ItrK X C fi fdI fld k) (cl : LenC X C fl fdL sp k) (hc : X.calm = true) (hr : Room (k + 3) X.A) :
    CallR X (.type "list") (fun xs H Q => ∃ (p dx d : Addr) (fs : List (Str × V)) (kvs : List (Key × V)) (m : Nat), xs = [.ref p] ∧ H p = some (.ins C dx fs) ∧ fs.lookup fld = some (.ref d) ∧ H d = some (.dK kvs) ∧ kvs.length ≤ 1000 ∧ m ≤ sizeLine ∧
      (∀ H', H' p = some (.ins C dx fs) → Rd H' d (.dK kvs) → sp [.ref p] H' (fun v H'' => v = .int (m : Int) ∧ H'' = H') E0) ∧ ∀ q, H q = none → Q (.ref q) (upd H q (.lst (kvs.map fun kv => kV kv.1)))) := by
  intro pins s σ H xs us Q I rv h
  obtain ⟨p, dx, d, fs, kvs, m, rfl, hp, hf, hd, hz, hm, hsp, hq⟩ := h
  obtain ⟨u, rfl, ru⟩ := rv.one
  cases ru
  have sb : Sub X (k + 1) X.A.in1.in1 := (Sub.in1 (Sub.in1 (⟨hr, rfl⟩ : Sub X (k + 3) X.A)))
  refine callType_codes (Q₁ := fun obj s₁ => obj = .ref s.heap.objs.size ∧ s₁ = { s with heap := s.heap.push { cls := .type "list", data := .seq #[] } }) PySem.F.called_list (PySem.F.typeCall_list_1 _) PySem.F.entry_list_init
    (code_list_new _ ⟨rfl, rfl⟩) fun obj s₁ h₁ => ?_
  obtain ⟨rfl, rfl⟩ := h₁
  have hS : (s.heap.push { cls := .type "list", data := .seq #[] }).get? s.heap.objs.size = some { cls := .type "list", data := .seq #[] } := Heap.get?_push_size _ rfl
  refine ⟨⟨_, hS, rfl⟩, PySem.F.args_list_init_2 _ _, ?_⟩
  have fr : H s.heap.objs.size = none := I.hok.fresh (Nat.le_refl _)
  have hq' := hq _ fr
  have I1 : Inv X pins σ (upd H s.heap.objs.size (.lst [])) { s with heap := s.heap.push { cls := .type "list", data := .seq #[] } } := I.lnew (its := []) (t' := s.toks) .nil (Nat.zero_le _)
  show wpAny _ _ (do let old ← Builtin.List.listItems (.ref s.heap.objs.size); Builtin.List.listUpdate (.ref s.heap.objs.size) (fun _ => #[]); letGo old.toList.reverse; Builtin.List.listExtendWith (.ref s.heap.objs.size) (.ref p) .none) _ _ _
  refine wpAny_bind ?_
  unfold Builtin.List.listItems
  refine wpAny_bind (wpAny_seqItems hS rfl (wpAny_pure ?_))
  show wpAny _ _ (updateSeq s.heap.objs.size (fun _ => #[]) >>= fun _ => letGo (#[] : Array Value).toList.reverse >>= fun _ => Builtin.List.listExtendWith (.ref s.heap.objs.size) (.ref p) .none) _ _ _
  refine wpAny_bind (wpAny_updateSeq hS rfl ?_)
  have I2 := I1.lset (f := fun _ => #[]) (its := []) (its' := []) (ys := []) (t' := s.toks) upd_same hS rfl .nil (Nat.zero_le _)
  rw [upd_upd] at I2
  refine wpAny_bind (wpAny_letGo ?_)
  have ndq : d ≠ s.heap.objs.size := ne_of_none hd fr
  have hd2 : upd H s.heap.objs.size (.lst []) d = some (.dK kvs) := by rw [upd_ne ndq]; exact hd
  have hp2 : upd H s.heap.objs.size (.lst []) p = some (.ins C dx fs) := by rw [upd_ne (ne_of_none hp fr)]; exact hp
  have npd : p ≠ d := ne_of hp hd (fun z => nomatch z)
  have nf := I2.nofrz hd2 True.intro
  obtain ⟨o, I3⟩ := I2.lock hd2 True.intro
  have hp3 : upd (upd H s.heap.objs.size (.lst [])) d (.frz o (.dK kvs)) p = some (.ins C dx fs) := by rw [upd_ne npd]; exact hp2
  refine own_extendK (q := s.heap.objs.size) (A1 := X.A.in1) (Rs := wants (fun r s₂ => r = .none ∧ EP X pins σ Q (.ref s.heap.objs.size) s₂) X.xe) sb (I.ok.hd hc) ci cl I3 hp3 hf upd_same (Nat.lt_of_le_of_lt hz (by decide)) hm (hsp _ hp3 (.inr ⟨o, upd_same⟩)) (by rw [upd_ne (Ne.symm ndq)]; exact upd_same) ndq
    (fun s' I' => ⟨rfl, .ref s.heap.objs.size, _, I'.unlock (by rw [upd_ne ndq]; exact upd_same) nf, rfl, ?_⟩) (fun e s' he => he)
  have e : upd (upd (upd (upd H s.heap.objs.size (.lst [])) d (.frz o (.dK kvs))) s.heap.objs.size (.lst (kvs.map fun kv => kV kv.1))) d (.dK kvs) = upd H s.heap.objs.size (.lst (kvs.map fun kv => kV kv.1)) := by
    funext b
    by_cases hb : b = d
    · rw [hb, upd_same, upd_ne ndq, hd]
    · rw [upd_ne hb]
      by_cases hb2 : b = s.heap.objs.size
      · rw [hb2, upd_same, upd_same]
      · rw [upd_ne hb2, upd_ne hb, upd_ne hb2, upd_ne hb2]
  rw [e]; exact hq'
end
end RK

set_option maxRecDepth 100000
set_option maxHeartbeats 4000000
namespace K35
open PySem PySem.Spec PyProof.Rows L2 PySem.W PySem.Calls
/-! ### heaps -/
theorem same_new {H : Hp} {p : Addr} {o : HO} (h : H p = none) : Same H (upd H p o) := fun b x e => by
  rw [upd_ne (ne_of_none e h)]; exact e
theorem same_at {H H' : Hp} {o : Addr} {x : HO} (s : Same H H') (h : H o = none) : Same H (upd H' o x) := fun b z e => by
  rw [upd_ne (ne_of_none e h)]; exact s b z e
theorem same_new2 {H H' : Hp} {p : Addr} {o : HO} (s : Same H H') (h : H' p = none) : Same H (upd H' p o) := fun b z e => by
  have e2 := s b z e
  rw [upd_ne (ne_of_none e2 h)]; exact e2
theorem map_snoc (rs : List Int) (r : Int) : rs.map V.int ++ [V.int r] = (rs ++ [r]).map V.int := by rw [List.map_append]; rfl
theorem map_snocS (rs : List Str) (r : Str) : rs.map V.str ++ [V.str r] = (rs ++ [r]).map V.str := by rw [List.map_append]; rfl
/-! ### texts as lists -/
abbrev tl (z : Str) : List Nat := z.cps.toList
theorem tl_len (z : Str) : (tl z).length = z.length := by simp [tl, Str.length]
theorem str_eq {a b : Str} (h : tl a = tl b) : a = b := by
  obtain ⟨x⟩ := a; obtain ⟨y⟩ := b
  show (⟨x⟩ : Str) = ⟨y⟩
  congr 1
  apply Array.toList_inj.mp; simpa [tl] using h
theorem str_of {z : Str} {x : Nat} (h : tl z = [x]) : z = ⟨#[x]⟩ := str_eq h
theorem str_mk (z : Str) : z = ⟨(tl z).toArray⟩ := str_eq rfl
theorem tl_add (a b : Str) : tl (a ++ b) = tl a ++ tl b := by
  show (a.cps ++ b.cps).toList = _
  rw [Array.toList_append]
theorem len_add (a b : Str) : (a ++ b).length = a.length + b.length := by
  show (a.cps ++ b.cps).size = _
  rw [Array.size_append]; rfl
theorem lt_one (x y : Nat) : decide ([x] < [y]) = !decide (y ≤ x) := by
  have e : decide ([x] < [y]) = decide (x < y) := by simp [List.cons_lt_cons_iff]
  rw [e]
  by_cases h : y ≤ x
  · rw [decide_eq_true h, decide_eq_false (by omega)]; rfl
  · rw [decide_eq_false h, decide_eq_true (by omega)]; rfl
theorem eqS (a b : Nat) : decide (V.str ⟨#[a]⟩ = V.str ⟨#[b]⟩) = decide (a = b) := by
  refine decide_eq_decide.mpr ⟨fun h => ?_, fun h => by rw [h]⟩
  injection h with h1
  have h2 := congrArg tl h1
  simpa [tl] using h2
theorem eqT (a b : Str) : decide (V.str a = V.str b) = decide (tl a = tl b) := by
  refine decide_eq_decide.mpr ⟨fun h => ?_, fun h => by rw [str_eq h]⟩
  injection h with h1
  rw [h1]
theorem eqI (a b : Int) : decide (V.int a = V.int b) = decide (a = b) := by
  refine decide_eq_decide.mpr ⟨fun h => ?_, fun h => by rw [h]⟩
  injection h
theorem cut_tl (z : Str) (a b : Nat) : tl (cutS z (some (a : Int)) (some (b : Int))) = ((tl z).drop (min a z.length)).take (min b z.length - min a z.length) := by
  unfold cutS tl
  rw [HT.sIx_nat, HT.sIx_nat]
theorem cut_to (z : Str) (b : Nat) : tl (cutS z none (some (b : Int))) = (tl z).take b := by
  unfold cutS tl
  rw [HT.sIx_none, HT.sIx_nat]
  show (z.cps.toList.drop 0).take (min b z.length - 0) = _
  rw [List.drop_zero, Nat.sub_zero]
  by_cases h : b ≤ z.length
  · rw [Nat.min_eq_left h]
  · rw [Nat.min_eq_right (by omega), List.take_of_length_le (by rw [tl_len]; exact Nat.le_refl _), List.take_of_length_le (by rw [tl_len]; omega)]
theorem cut_from (z : Str) (a : Nat) : tl (cutS z (some (a : Int)) none) = (tl z).drop a := by
  unfold cutS tl
  rw [HT.sIx_none, HT.sIx_nat]
  show (z.cps.toList.drop (min a z.length)).take (z.length - min a z.length) = _
  by_cases h : a ≤ z.length
  · rw [Nat.min_eq_left h, List.take_of_length_le (by rw [List.length_drop, tl_len]; exact Nat.le_refl _)]
  · rw [Nat.min_eq_right (by omega), Nat.sub_self, List.take_zero, List.drop_of_length_le (by rw [tl_len]; omega)]
theorem joinL_flat : ∀ ls : List (List Nat), TL.joinL [] ls = ls.flatten
  | [] => rfl
  | [p] => by simp [TL.joinL]
  | p :: q :: r => by
    have h := joinL_flat (q :: r)
    simp only [TL.joinL, List.nil_append, h, List.flatten_cons]
theorem tl_joined {e : Str} (he : tl e = []) (ys : List Str) : tl (Txt.join e ys) = (ys.map tl).flatten := by
  have h1 : TL.tl (Txt.join e ys) = TL.joinL (TL.tl e) (ys.map TL.tl) := by rw [TL.join_eq, TL.tl_join]
  have h2 : TL.tl e = [] := he
  rw [h2, joinL_flat] at h1
  exact h1
/-- texts of one sign each, joined -/
theorem join_ones (cs : List Nat) : tl (Txt.join (Str.ofString "") (cs.map fun c => (⟨#[c]⟩ : Str))) = cs := by
  rw [tl_joined (by decide +kernel), List.map_map]
  induction cs with
  | nil => rfl
  | cons c cs ih => simp only [List.map_cons, List.flatten_cons, ih]; rfl
theorem sum_ones (cs : List Nat) : ((cs.map fun c => (⟨#[c]⟩ : Str)).map (·.length)).sum = cs.length := by
  induction cs with
  | nil => rfl
  | cons c cs ih => simp only [List.map_cons, List.sum_cons, ih, List.length_cons]; show 1 + _ = _; omega
theorem pick {z : Str} {r : Int} (h0 : 0 ≤ r) (h1 : r < (z.length : Int)) : ∃ c, atI z.cps.toList r = some c ∧ c ∈ tl z := by
  have h2 : r.toNat < z.cps.toList.length := by rw [Array.length_toList]; have : z.length = z.cps.size := rfl; omega
  have h3 : ((r.toNat : Nat) : Int) = r := by omega
  have h4 := atI_nat (List.getElem?_eq_getElem h2)
  rw [h3] at h4
  exact ⟨_, h4, List.getElem_mem h2⟩
theorem cutV_nat (xs : List V) {a b : Nat} (hab : a ≤ b) (hb : b ≤ xs.length) : cutV xs (some (a : Int)) (some (b : Int)) = (xs.drop a).take (b - a) := by
  unfold cutV
  rw [HT.sIx_nat, HT.sIx_nat, Nat.min_eq_left hb, Nat.min_eq_left (Nat.le_trans hab hb)]
def isL (x : Nat) : Bool := decide (97 ≤ x) && decide (x ≤ 122)
def letters : Str := Str.ofString "abcdefghijklmnopqrstuvwxyz"
theorem letters_L : ∀ c ∈ tl letters, isL c = true := by decide +kernel
theorem letters_len : letters.length = 26 := by decide +kernel
/-! the text -/
def topS (i : Nat) : Stmt := PySem.Challenge.pw_laidforall_k35_books.main.body.getD i (.Pass ⟨0, 0, 0, 0⟩)
abbrev sTooI : Stmt := inClass (topS 2) 0
abbrev sBadI : Stmt := inClass (topS 3) 0
abbrev sCheck : Stmt := topS 7
abbrev sInit : Stmt := inClass (topS 8) 1
abbrev sEq : Stmt := inClass (topS 8) 2
abbrev sChg : Stmt := inClass (topS 8) 3
abbrev sCell : Stmt := topS 10
abbrev sRow : Stmt := topS 11
abbrev sNumber : Stmt := topS 12
abbrev sSame : Stmt := topS 13
abbrev sNames : Stmt := topS 14
abbrev sBounds : Stmt := topS 15
abbrev sValues : Stmt := topS 16
abbrev sOdd : Stmt := topS 17
abbrev sFits : Stmt := topS 18
abbrev sDue : Stmt := topS 19
abbrev sTold : Stmt := topS 20
abbrev sMade : Stmt := topS 21
abbrev sBook : Stmt := topS 22
abbrev sOneC : Stmt := topS 23
abbrev sSomeC : Stmt := topS 24
abbrev sSomeD : Stmt := topS 25
abbrev sChanges : Stmt := topS 26
abbrev sStrange : Stmt := topS 27
abbrev sLaw : Stmt := topS 28
structure Blt (mg : Str → Option Value) : Prop where
  len : mg "len" = none
  int : mg "int" = none
  str : mg "str" = none
  bool : mg "bool" = none
  tuple : mg "tuple" = none
  list : mg "list" = none
  range : mg "range" = none
  isi : mg "isinstance" = none
  min : mg "min" = none
  zip : mg "zip" = none
  ve : mg "ValueError" = none
  NotImplemented : mg "NotImplemented" = none
section
variable {P : Program} {w : World} {K : PySem.W.Frag} {mg : Str → Option Value} {base : Heap}
/-! ### _law_cell -/
def spCell (K : PySem.W.Frag) : Sp := fun vs H Q _ => ∃ (a : Addr) (ns : List Int) (k : Int), vs = [.ref a, .int k] ∧ SqL K H a (ns.map V.int) ∧ ns.length ≤ 63 ∧ 0 ≤ k ∧ ∀ c, Q (.int c) H
theorem scCell : FnScope ["_law_script", "_law_k"] ["_law_script", "_law_k"] (defScope sCell) := ⟨rfl, rfl, rfl, by decide +kernel, rfl, by decide +kernel, by decide +kernel⟩
theorem ok_cell {f : Addr} {fd : FuncData} (B : Blt mg) (F : Fun K "_law_cell" "_law_cell" sCell f fd) : FnOk P w K mg base CX0 1 f fd ["_law_script", "_law_k"] (spCell K) := by
  refine F.ok scCell (fun vs H Q E h => ?_) (fun cdv A outer s H vs Q E hr h => ?_)
  · obtain ⟨a, ns, k, rfl, _⟩ := h; rfl
  · obtain ⟨a, ns, k, rfl, hS, hlen, h0, q⟩ := h
    refine ⟨_, pss_cons (ps_if (pt_cmpR op_lt (pv 1) (pe_callB call_len (by rfl) B.len PySem.boot_len (pa_cons (pv 0) pa_nil)) (nomark _)) (pss_one (ps_ret (pe_callTy call_int1 (by rfl) B.int (by decide +kernel) (pa_cons (pe_ix ix_list (pv 0) (pv 1) (fun _ _ => rfl)) pa_nil)))) pss_nil)
      (pss_one (ps_ret pe_int)), ?_⟩
    refine ⟨.int k, rfl, .ref a, rfl, .ref a, (ns.map V.int).length, rfl, .inl ⟨_, hS, rfl⟩, k, _, rfl, rfl, _, rfl, ite2 (fun hk => ?_) (fun _ => ?_)⟩
    · have hk' : k < ((ns.map V.int).length : Int) := of_decide_eq_true hk
      rw [List.length_map] at hk'
      have hlt : k.toNat < ns.length := by omega
      exact ⟨.ref a, rfl, .int k, rfl, a, _, k, .int (ns[k.toNat]'hlt), rfl, rfl, hS, at_of (j := k.toNat) (by omega) (by rw [List.getElem?_map]; simp [hlt]), .inl ⟨_, rfl, q _⟩⟩
    · exact q _
/-! ### _law_row -/
theorem map_snoc' (rs : List Int) (r : Int) : rs.map V.int ++ [V.int r] = (rs ++ [r]).map V.int := by rw [List.map_append]; rfl
def RowOf (ls rs : List Int) : Prop := rs.length = ls.length ∧ ∀ (i : Nat) (l : Int), ls[i]? = some l → ∃ r, rs[i]? = some r ∧ 0 ≤ r ∧ r < l
def spRow (K : PySem.W.Frag) : Sp := fun vs H Q _ => ∃ (c : Int) (a : Addr) (ls : List Int), vs = [.int c, .ref a] ∧ SqL K H a (ls.map V.int) ∧ ls.length ≤ 1000 ∧ (∀ l ∈ ls, 0 < l ∧ l < 1000000) ∧
  ∀ H' p rs, Same H H' → H p = none → H' p = some (.lst (rs.map V.int)) → RowOf ls rs → Q (.ref p) H'
theorem scRow : FnScope ["_law_cell_here", "_law_limits", "_law_row_here", "_law_rest", "_law_limit", "_law_k", "_law_mixed"] ["_law_cell_here", "_law_limits"] (defScope sRow) := ⟨rfl, rfl, rfl, by decide +kernel, rfl, by decide +kernel, by decide +kernel⟩
theorem ok_row {f : Addr} {fd : FuncData} (B : Blt mg) (F : Fun K "_law_row" "_law_row" sRow f fd) : FnOk P w K mg base CX0 1 f fd ["_law_cell_here", "_law_limits"] (spRow K) := by
  refine F.ok scRow (fun vs H Q E h => ?_) (fun cdv A outer s H vs Q E hr h => ?_)
  · obtain ⟨c, a, ls, rfl, _⟩ := h; rfl
  · obtain ⟨c, a, ls, rfl, hS, hlen, hpos, q⟩ := h
    refine ⟨_, (pss_cons (ps_set (i := 2) scRow.nd rfl (.inl rfl) (pe_lst pa_nil))
      (pss_cons (ps_if (pt_cmpR op_ge (pv 0) pe_int (nomark _))
      (pss_cons (ps_set (i := 3) scRow.nd rfl (.inl rfl) (pe_op op_sub (pv 0) pe_int))
       (pss_cons (ps_for (PassesOwn.never) rfl (pi_list (pv 1)) (pg_name (i := 4) scRow.nd rfl (.inl rfl))
       (pss_cons (ps_expr (pe_bm PySem.F.plainAttrs_list PySem.F.slot_list_append PySem.F.type_list_append mt_append (pv 2) (pa_cons (pe_op op_modN (pe_callTy call_int1 (by rfl) B.int (by decide +kernel) (pa_cons (pv 3) pa_nil)) (pv 4)) pa_nil)))
        (pss_one (ps_set (i := 3) scRow.nd rfl (.inl rfl) (pe_op op_fdivN (pv 3) (pv 4))))))
       (pss_one (ps_ret (pv 2)))))
      pss_nil)
      (pss_cons (ps_for (PassesOwn.never) rfl (pi_range1 (by rfl) B.range (pa_cons (pe_callB call_len (by rfl) B.len PySem.boot_len (pa_cons (pv 1) pa_nil)) pa_nil)) (pg_name (i := 5) scRow.nd rfl (.inl rfl))
      (pss_cons (ps_set (i := 6) scRow.nd rfl (.inl rfl) (pe_op op_modN (pe_callTy call_int1 (by rfl) B.int (by decide +kernel) (pa_cons (pe_op op_add (pe_op op_add (pe_op op_mul (pv 0) pe_int) (pe_op op_mul (pv 5) pe_int)) pe_int) pa_nil)) pe_int))
       (pss_cons (ps_set (i := 6) scRow.nd rfl (.inl rfl) (pe_op op_modN (pe_callTy call_int1 (by rfl) B.int (by decide +kernel) (pa_cons (pe_op op_add (pe_op op_add (pe_op op_mul (pv 6) (pe_op op_add pe_int (pe_op op_mul pe_int (pv 5)))) (pe_op op_mul (pe_op op_mul (pv 5) (pv 5)) pe_int)) pe_int) pa_nil)) pe_int))
       (pss_one (ps_expr (pe_bm PySem.F.plainAttrs_list PySem.F.slot_list_append PySem.F.type_list_append mt_append (pv 2) (pa_cons (pe_op op_modN (pe_callTy call_int1 (by rfl) B.int (by decide +kernel) (pa_cons (pe_op op_fdivN (pv 6) pe_int) pa_nil)) (pe_ix ix_list (pv 1) (pv 5) (fun _ _ => rfl))) pa_nil)))))))
      (pss_one (ps_ret (pv 2)))))), ?_⟩
    refine ⟨Nat.zero_le _, fun o no => ?_⟩
    have s1 : Same H (upd H o (.lst [])) := same_new no
    have eo : (upd H o (.lst [])) o = some (.lst (([] : List Int).map V.int)) := upd_same
    generalize upd H o (.lst []) = H1 at s1 eo ⊢
    have more : ∀ (n : Nat) (rs : List Int) (l : Int), ls[n]? = some l → rs.length = n → (∀ (i : Nat) (l : Int), i < n → ls[i]? = some l → ∃ r, rs[i]? = some r ∧ 0 ≤ r ∧ r < l) → ∀ x : Int, ∀ (i : Nat) (m : Int), i < n + 1 → ls[i]? = some m → ∃ r, (rs ++ [x.fmod l])[i]? = some r ∧ 0 ≤ r ∧ r < m := by
      intro n rs l hl hrs hrow x i m hi hm
      have hp := hpos l (List.mem_of_getElem? hl)
      by_cases hin : i < n
      · obtain ⟨r, h1, h2, h3⟩ := hrow i m hin hm
        exact ⟨r, by rw [List.getElem?_append_left (by omega)]; exact h1, h2, h3⟩
      · obtain rfl : i = n := by omega
        rw [hl] at hm; cases hm
        exact ⟨_, by rw [List.getElem?_append_right (by omega), hrs, Nat.sub_self]; rfl, Int.fmod_nonneg_of_pos _ hp.1, Int.fmod_lt_of_pos _ hp.1⟩
    refine ⟨.int c, rfl, c, 1000000000000000000, rfl, rfl, _, rfl, ite2 (fun _ => ?_) (fun _ => ?_)⟩
    · refine ⟨.int c, rfl, c, 1000000000000000000, rfl, rfl, .ref a, rfl, a, rfl, ⟨_, s1.seq hS⟩, for_list (K := K) (a := a) (xs := ls.map V.int) (fun n σ H' => ∃ (rest : Int) (y4 y5 y6 : Option V) (rs : List Int), σ = [some (.int c), some (.ref a), some (.ref o), some (.int rest), y4, y5, y6] ∧ Same H H' ∧ H' o = some (.lst (rs.map V.int)) ∧ rs.length = n ∧
        ∀ (i : Nat) (l : Int), i < n → ls[i]? = some l → ∃ r, rs[i]? = some r ∧ 0 ≤ r ∧ r < l) ⟨_, none, none, none, [], rfl, s1, eo, rfl, fun i l h => absurd h (Nat.not_lt_zero i)⟩ (fun n σ H' _ ⟨_, _, _, _, _, _, sm, _⟩ => sm.seq hS) ?_ ?_⟩
      · rintro n x σ H' hn ⟨rest, y4, y5, y6, rs, rfl, sm, ho, hl, hrow⟩
        rw [List.getElem?_map] at hn
        cases en : ls[n]? with
        | none => rw [en] at hn; cases hn
        | some l =>
        rw [en] at hn; cases hn
        have hp := hpos l (List.mem_of_getElem? en)
        have hlt := (List.getElem?_eq_some_iff.mp en).1
        have hsz : (rs.map V.int).length < sizeLine := by rw [List.length_map]; exact small1000 (by omega)
        refine ⟨.ref o, rfl, .inl ⟨rfl, _, SqL.of ho⟩, .int rest, rfl, .inl ⟨rest, rfl, .int l, rfl, rest, l, rfl, rfl, by omega, o, _, _, rfl, rfl, ho, hsz, ?_⟩⟩
        refine ⟨.int rest, rfl, .int l, rfl, rest, l, rfl, rfl, ⟨by omega, by omega⟩, ?_⟩
        exact ⟨_, _, _, _, _, rfl, same_at sm no, by rw [upd_same, map_snoc'], by rw [List.length_append, hl]; rfl, more n rs l en hl hrow rest⟩
      · rintro σ H' ⟨rest, y4, y5, y6, rs, rfl, sm, ho, hl, hrow⟩
        rw [List.length_map] at hl hrow
        exact ⟨.ref o, rfl, q H' o rs sm no ho ⟨hl, fun i l hli => hrow i l (List.getElem?_eq_some_iff.mp hli).1 hli⟩⟩
    · refine ⟨.ref a, rfl, .ref a, (ls.map V.int).length, rfl, .inl ⟨_, s1.seq hS, rfl⟩, ((ls.map V.int).length : Int), rfl, by omega, by rw [List.length_map]; omega, ?_⟩
      rw [Int.toNat_natCast, List.length_map]
      refine for_range (lo := 0) (n := ls.length) (fun n σ H' => ∃ (y3 y4 y5 y6 : Option V) (rs : List Int), σ = [some (.int c), some (.ref a), some (.ref o), y3, y4, y5, y6] ∧ Same H H' ∧ H' o = some (.lst (rs.map V.int)) ∧ rs.length = n ∧
        ∀ (i : Nat) (l : Int), i < n → ls[i]? = some l → ∃ r, rs[i]? = some r ∧ 0 ≤ r ∧ r < l) ⟨none, none, none, none, [], rfl, s1, eo, rfl, fun i l h => absurd h (Nat.not_lt_zero i)⟩ ?_ ?_
      · rintro n σ H' hn ⟨y3, y4, y5, y6, rs, rfl, sm, ho, hl, hrow⟩
        have e0 : (0 : Int) + (n : Int) = (n : Int) := by omega
        rw [e0]
        have hSn : SqL K H' a (ls.map V.int) := sm.seq hS
        have en : ls[n]? = some (ls[n]'hn) := by simp [hn]
        have hat : (ls.map V.int)[n]? = some (.int (ls[n]'hn)) := by rw [List.getElem?_map, en]; rfl
        have hp := hpos (ls[n]'hn) (List.getElem_mem hn)
        have hsz : (rs.map V.int).length < sizeLine := by rw [List.length_map]; exact small1000 (by omega)
        refine ⟨.int c, rfl, c, 48271, rfl, rfl, .inr ⟨by decide, by decide⟩, .int (n : Int), rfl, (n : Int), 69621, rfl, rfl, .inr ⟨by decide, by decide⟩, _, _, rfl, rfl, _, 11, rfl, rfl, .inl ⟨_, rfl, _, 2147483647, rfl, rfl, (show (2147483647 : Int) ≠ 0 by decide), ?_⟩⟩
        have hm0 : 0 ≤ (c * 48271 + (n : Int) * 69621 + 11).fmod 2147483647 := Int.fmod_nonneg_of_pos _ (by decide)
        have hm1 : (c * 48271 + (n : Int) * 69621 + 11).fmod 2147483647 < 2147483647 := Int.fmod_lt_of_pos _ (by decide)
        refine ⟨_, rfl, .int (n : Int), rfl, 2, (n : Int), rfl, rfl, .inl ⟨by decide, by decide⟩, 16807, _, rfl, rfl, (c * 48271 + (n : Int) * 69621 + 11).fmod 2147483647, _, rfl, rfl, .inl ⟨Int.lt_of_lt_of_le (by decide) hm0, Int.lt_trans hm1 (by decide)⟩, .int (n : Int), rfl, .int (n : Int), rfl, (n : Int), (n : Int), rfl, rfl, .inl ⟨by omega, by omega⟩, _, 40692, rfl, rfl, .inr ⟨by decide, by decide⟩, _, _, rfl, rfl, _, 7, rfl, rfl, .inl ⟨_, rfl, _, 2147483399, rfl, rfl, (show (2147483399 : Int) ≠ 0 by decide), ?_⟩⟩
        refine ⟨.ref o, rfl, .inl ⟨rfl, _, SqL.of ho⟩, _, rfl, _, 31, rfl, rfl, ⟨by decide, by decide⟩, .inl ⟨_, rfl, .ref a, rfl, .int (n : Int), rfl, a, _, (n : Int), .int (ls[n]'hn), rfl, rfl, hSn, atI_nat hat, _, ls[n]'hn, rfl, rfl, by omega, o, _, _, rfl, rfl, ho, hsz, ?_⟩⟩
        exact ⟨_, _, _, _, _, rfl, same_at sm no, by rw [upd_same, map_snoc'], by rw [List.length_append, hl]; rfl, more n rs _ en hl hrow _⟩
      · rintro σ H' ⟨y3, y4, y5, y6, rs, rfl, sm, ho, hl, hrow⟩
        exact ⟨.ref o, rfl, q H' o rs sm no ho ⟨hl, fun i l hli => hrow i l (List.getElem?_eq_some_iff.mp hli).1 hli⟩⟩
end
end K35

set_option maxRecDepth 100000
set_option maxHeartbeats 2000000
/-! an own exception with its own __init__, made where nothing is handled: its context is None -/
namespace RN
open PySem PySem.Spec PyProof.Rows L2
section
variable {X : Cx} {e : Expr} {es : List Expr} {ta : TA} {p pos : Pos}
theorem mk_endN {pins : List (Addr × Obj)} {σ : L2.St} {Ha Hb : Hp} {Q : XK} {hh hh2 hb2 : Heap} {gg gg2 : Array GenState} {d1 dd2 : Drawn} {t1 tt2 : Nat} {oz oz2 : OsState} {a C d : Addr} {fs : List (Str × V)} (T : Raises X (.ref C)) (Ia : Inv X pins σ Ha ⟨hh, gg, d1, t1, oz⟩)
    (ha : hh.objs.size ≤ a) (k : ∀ b o, hh.get? b = some o → hh2.get? b = some o) (un : Un (frs X.stack) [] (upd Ha a (exo a C none)) Hb hh2 hb2) (hok : HOk X.prog X.w Hb hb2) (ho : oz2 = oz) (hb : AllBare gg2)
    (ea : Hb a = some (exo a C (some d))) (ed : Hb d = some (exd d fs)) (hd1 : Ha d = none) (q : Q (.ref C) (some d) (upd (del Hb a) d (.xd fs))) : L2N.MkP X pins σ Q (.ref a) ⟨hb2, gg2, dd2, tt2, oz2⟩ := by
  obtain ⟨t0, G, J, kG, ge, hoe, na⟩ := mk_end0 (d2 := dd2) (t2 := tt2) Ia ha k un hok ho hb ea ed hd1
  exact ⟨a, _, _, ⟨G, gg2, dd2, tt2, oz2⟩, _, .ref C, some d, rfl, J, kG, ge, hoe, ⟨rfl, rfl, fun vs hv => by cases hv; rfl⟩, rfl, rfl, na, rfl, hb, T, q⟩
theorem pmk_oexN {CX : CXT} {x : Str} {C fI : Addr} {k : Nat} {fd : FuncData} {ps : List Str} {sp : Sp} {dz : List Value} {dvz : List V} (T : OexC X.K C) (iC : PySem.W.findIn X.K (.ref C) "__init__" = some (some (.ref fI))) (tI : PySem.W.typeIn X.K (.ref fI) = some (.type "function"))
    (F1 : FnOk X.prog X.w X.K X.mg X.base CX k fI fd ps sp) (hr : Room (k + 1) X.A) (hb : Binds X.K fd ps dz) (hd : Vals dvz dz) (hx : Passes CX X (fun _ _ _ => False)) (hg : Gl X x) (hm : X.mg x = some (.ref C)) (ha : PA X (e :: es) ta)
    (hdb : (x == ("__debug__" : Str)) = false := by decide) (he : starEach (e :: es) X.env = (false, eval e X.env) :: starEach es X.env := by rfl) (hpl : (backTo pos (starEach es X.env)).any (·.1) = false := by rfl) :
    L2N.PMk X (.Call (.Name x p) (e :: es) [] pos) (tMkO C sp dvz ta) := by
  intro pins s σ H Q I h
  obtain ⟨nm, q, N, bs, bm, sn, sub, ab, col, dd, k0, k1, k2, k3, k5, hC, hbm⟩ := T.cls
  refine wpAny_Call_Name_kw (ld_glob I hg hm ?_ hdb)
  refine PySem.W.callWith_K (h₀ := X.base) I.ok.mod.kin T.kC (thn (ha.run pos pins s σ H _ I h) fun uu sa ⟨vv, Ha, Ia, ra, hz, qa⟩ => ⟨Ia.kIn, ?_⟩) he hpl
  show wpAny _ _ (call (.ref C) uu) _ _ _
  obtain ⟨hh, gg, dr, kt, oz⟩ := sa
  have hle : hh.objs.size ≤ hh.objs.size + 1 := Nat.le_succ _
  have hna : Ha (hh.objs.size + 1) = none := Ia.hok.fresh hle
  have hqa := qa (hh.objs.size + 1) hna
  have kp : ∀ b o, hh.get? b = some o → ((hh.push (PySem.W.kdv_tup uu)).push (PySem.HandSPX.excO C hh.objs.size)).get? b = some o := fun b o e => Heap.get?_push_of_some _ (Heap.get?_push_of_some _ e)
  have hob : ((hh.push (PySem.W.kdv_tup uu)).push (PySem.HandSPX.excO C hh.objs.size)).get? (hh.objs.size + 1) = some (PySem.HandSPX.excO C hh.objs.size) := by heap_get
  have Ib : Inv X pins σ (upd Ha (hh.objs.size + 1) (exo (hh.objs.size + 1) C none)) ⟨(hh.push (PySem.W.kdv_tup uu)).push (PySem.HandSPX.excO C hh.objs.size), gg, dr, kt, oz⟩ :=
    Ia.laid (t' := kt) (a := hh.objs.size + 1) (o := exo (hh.objs.size + 1) C none) (h' := (hh.push (PySem.W.kdv_tup uu)).push (PySem.HandSPX.excO C hh.objs.size)) kp hle (exo_ok hob)
  have rb : Vals (V.ref (hh.objs.size + 1) :: (vv ++ dvz)) (Value.ref (hh.objs.size + 1) :: (uu ++ dz)) := .cons rfl (ra.append hd)
  have hlen : (Value.ref (hh.objs.size + 1) :: uu ++ dz).length = ps.length := by
    have e := rb.length
    rw [F1.len _ _ _ _ hqa] at e
    exact e.symm
  have huu : uu.length ≤ sizeLine := by
    rw [← Paired.length ra, sizeLine_eq]
    omega
  refine wpAny_call (PySem.HandSPX.call_own F.excBase_ValueError (fun Y => PySem.HandSPX.refsVE_contains Y bm hbm) (Ia.kIn _ _ hC) (PySem.W.looks_findIn Ia.kIn iC) (fun self => PySem.W.bind_fn Ia.kIn self tI) huu
    (codeAny_mono (F1.run _ X.stack _ _ ⟨Value.ref (hh.objs.size + 1) :: uu, []⟩ (Value.ref (hh.objs.size + 1) :: (uu ++ dz)) _ _ (fun _ _ _ => False) (hr.make C uu []) (Ib.env0.make C uu []) (hb _ (Value.ref (hh.objs.size + 1) :: uu) Ib.kIn hlen) rb hqa) fun r s' hqq => ?_))
  cases r with
  | error erx => exact hx pins σ _ _ erx s' Ib hqq
  | ok fl =>
    cases fl with
    | ret u =>
      obtain ⟨v, Hb, oz2, bar2, unb, hokb, rvv, evv, d, fs, ea, ed, hd1, qb⟩ := hqq
      subst evv
      obtain ⟨hb2, gg2, dd2, tt2, os'⟩ := s'
      exact ⟨rvv, mk_endN (raises_own T.exC T.tyC) Ia hle kp unb hokb oz2 bar2 ea ed hd1 qb⟩
    | next => exact False.elim hqq
    | brk => exact False.elim hqq
    | cont => exact False.elim hqq

end
theorem takes0N {X : Cx} : L2N.Takes X (fun _ _ _ _ => False) := fun _ _ x => by
  obtain ⟨_, _, _, _, _, _, _, _, _, _, _, _, _, _, _, _, z⟩ := x
  exact z.elim
/-- a def that may raise where nothing is handled -/
theorem okXN {P : Program} {w : World} {K : PySem.W.Frag} {mg : Str → Option Value} {base : Heap} {x qual : Str} {st : Stmt} {f : Addr} {fd : FuncData} {N ps : List Str} {k : Nat} {sp : Sp} (F : Fun K x qual st f fd) (S : FnScope N ps (defScope st)) (hl : ∀ vs H Q E, sp vs H Q E → vs.length = ps.length)
    (hb : ∀ (cdv : Value) (A : Around) (outer : List Env) (s : Shared) (H : Hp) (vs : List V) (Q : VK) (E : XK), Room k (A.deeper (envOfC qual (defScope st) s.heap.objs.size f cdv)) → sp vs H Q E →
      ∃ u, PSs (cxOf (L2N.CX P w) P w K mg base N qual (defScope st) f cdv A outer s H E) (defBody st) u ∧ u { nx := fun _ G => Q .non G, rt := Q } (start N vs) H) : FnOk P w K mg base (L2N.CX P w) (k + 1) f fd ps sp := by
  obtain ⟨c1, c2, c3, c4, c5, c6, c7, c8, c9, rfl, lk, hcd⟩ := F.ex
  exact fn_of lk hcd S hl fun A outer s H vs Q E hr hsp => hb c7 A outer s H vs Q E hr hsp
/-- a def called inside an except suite -/
theorem okH {P : Program} {w : World} {K : PySem.W.Frag} {mg : Str → Option Value} {base : Heap} {x qual : Str} {st : Stmt} {f : Addr} {fd : FuncData} {N ps : List Str} {k : Nat} {sp : Sp} (F : Fun K x qual st f fd) (S : FnScope N ps (defScope st)) (hl : ∀ vs H Q E, sp vs H Q E → vs.length = ps.length)
    (hb : ∀ (cdv : Value) (A : Around) (outer : List Env) (s : Shared) (H : Hp) (vs : List V) (Q : VK) (E : XK) (p : Addr × Obj), sp vs H Q E →
      ∃ u, PSs (L2H.cxH CX0 P w K mg base N qual (defScope st) f cdv A outer s H E p) (defBody st) u ∧ u { nx := fun _ G => Q .non G, rt := Q } (start N vs) H) : L2H.FnH P w K mg base CX0 (k + 1) f fd ps sp := by
  obtain ⟨c1, c2, c3, c4, c5, c6, c7, c8, c9, rfl, lk, hcd⟩ := F.ex
  exact L2H.fn_ofH lk hcd S hl fun A outer s H vs Q E p _ _ hsp => hb c7 A outer s H vs Q E p hsp
end RN

set_option maxRecDepth 100000
set_option maxHeartbeats 8000000
namespace K35
open PySem PySem.Spec PyProof.Rows L2
section
variable {P : Program} {w : World} {K : PySem.W.Frag} {mg : Str → Option Value} {base : Heap}
/-! ### _law_number, _law_same -/
def spNumber : Sp := fun vs H Q _ => ∃ i : Int, vs = [.int i] ∧ Q (.bl true) H
theorem scNumber : FnScope ["_law_value"] ["_law_value"] (defScope sNumber) := ⟨rfl, rfl, rfl, by decide +kernel, rfl, by decide +kernel, by decide +kernel⟩
theorem ok_number {f : Addr} {fd : FuncData} (B : Blt mg) (F : Fun K "_law_number" "_law_number" sNumber f fd) : FnOk P w K mg base CX0 1 f fd ["_law_value"] spNumber := by
  refine F.ok scNumber (fun vs H Q E h => ?_) (fun cdv A0 outer s H vs Q E hr h => ?_)
  · obtain ⟨i, rfl, _⟩ := h; rfl
  · obtain ⟨i, rfl, q⟩ := h
    refine ⟨_, (pss_one (ps_ret (pe_and (pe_callB call_isi (by rfl) B.isi (by decide +kernel) (pa_cons (pv 0) (pa_cons (pe_bltn (v := .ty "int") (by rfl) B.int (by decide +kernel) rfl) pa_nil))) (pe_one (pe_not (pe_callB call_isi (by rfl) B.isi (by decide +kernel) (pa_cons (pv 0) (pa_cons (pe_bltn (v := .ty "bool") (by rfl) B.bool (by decide +kernel) rfl) pa_nil)))))))), ?_⟩
    exact ⟨.int i, rfl, .int i, .ty "int", .type "int", .type "int", true, rfl, .ty "int", .base (.int i), kit_ty (by decide +kernel), _, rfl, iteT ⟨.int i, rfl, .int i, .ty "bool", .type "int", .type "bool", false, rfl, .ty "bool", .base (.int i), kit_ty (by decide +kernel), _, rfl, q⟩⟩
theorem ty_txt {H : Hp} {z : Str} : TyX K H (.str z) (.type "str") := .base (.str z)
theorem ty_lst {H : Hp} {a : Addr} {xs : List V} (h : H a = some (.lst xs)) : TyX K H (.ref a) (.type "list") := .base (.lst h)
theorem ty_tup {H : Hp} {a : Addr} {xs : List V} (h : H a = some (.tup xs)) : TyX K H (.ref a) (.type "tuple") := .base (.tup h)
def Leaf (v : V) : Prop := (∃ z, v = .str z) ∨ (∃ i, v = .int i) ∨ ∃ b, v = .bl b
/-- the same through and through, n deep -/
def SameV : Nat → Hp → V → V → Prop
  | 0, _, x, y => x = y ∧ Leaf x
  | n + 1, H, x, y => (x = y ∧ Leaf x) ∨ ∃ (a b : Addr) (xs ys : List V), x = .ref a ∧ y = .ref b ∧ ((H a = some (.lst xs) ∧ H b = some (.lst ys)) ∨ (H a = some (.tup xs) ∧ H b = some (.tup ys))) ∧ xs.length = ys.length ∧ ys.length ≤ 1000 ∧
      ∀ (i : Nat) u v, xs[i]? = some u → ys[i]? = some v → SameV n H u v
/-- tuples stand -/
def Still : HO → Prop
  | .tup _ => True
  | _ => False
def Kp (H H' : Hp) : Prop := ∀ b o, Still o → H b = some o → H' b = some o
theorem Kp.refl (H : Hp) : Kp H H := fun _ _ _ h => h
theorem Kp.trans {H H1 H2 : Hp} (a : Kp H H1) (b : Kp H1 H2) : Kp H H2 := fun x o n h => b x o n (a x o n h)
theorem Kp.of {H H' : Hp} (s : Same H H') : Kp H H' := fun b o _ h => s b o h
theorem Kp.but {H H' : Hp} {p : Addr} {u : HO} (hp : H p = some u) (nu : ¬ Still u) (s : ∀ b o, b ≠ p → H b = some o → H' b = some o) : Kp H H' := fun b o n h => s b o (fun e => by
  rw [e, hp] at h; cases h; exact nu n) h
theorem Kp.tup {H H' : Hp} (s : Kp H H') {a : Addr} {xs : List V} (h : H a = some (.tup xs)) : H' a = some (.tup xs) := s _ _ True.intro h
theorem upd_but {H : Hp} {p : Addr} {x : HO} : ∀ b o, b ≠ p → H b = some o → upd H p x b = some o := fun b o h e => by rw [upd_ne h]; exact e
def spSame (n : Nat) : Sp := fun vs H Q _ => ∃ x y, vs = [x, y] ∧ SameV n H x y ∧ Q (.bl true) H
theorem scSame : FnScope ["_law_one", "_law_two", "_law_k"] ["_law_one", "_law_two"] (defScope sSame) := ⟨rfl, rfl, rfl, by decide +kernel, rfl, by decide +kernel, by decide +kernel⟩
theorem ok_same0 {f : Addr} {fd : FuncData} (B : Blt mg) (F : Fun K "_law_same" "_law_same" sSame f fd) : FnOk P w K mg base CX0 1 f fd ["_law_one", "_law_two"] (spSame 0) := by
  refine F.ok scSame (fun vs H Q E h => ?_) (fun cdv A outer s H vs Q E hr h => ?_)
  · obtain ⟨x, y, rfl, _⟩ := h; rfl
  · obtain ⟨x, y, rfl, ⟨rfl, hv⟩, q⟩ := h
    refine ⟨_, (pss_cons (ps_if (pt_cmpR op_isN (pv 1) pe_non (nomark _)) (pss_one ps_never) pss_nil)
      (pss_cons (ps_if (pt_val (pe_callB call_isi (by rfl) B.isi (by decide +kernel) (pa_cons (pv 1) (pa_cons (pe_bltn (v := .ty "bool") (by rfl) B.bool (by decide +kernel) rfl) pa_nil)))) (pss_one (ps_ret (pe_and (pe_callB call_isi (by rfl) B.isi (by decide +kernel) (pa_cons (pv 0) (pa_cons (pe_bltn (v := .ty "bool") (by rfl) B.bool (by decide +kernel) rfl) pa_nil))) (pe_one (pe_cmpR op_eq (pv 0) (pv 1) (nomark _)))))) pss_nil)
      (pss_cons (ps_if (pt_val (pe_callB call_isi (by rfl) B.isi (by decide +kernel) (pa_cons (pv 1) (pa_cons (pe_bltn (v := .ty "int") (by rfl) B.int (by decide +kernel) rfl) pa_nil)))) (pss_one (ps_ret (pe_and (pe_callB call_isi (by rfl) B.isi (by decide +kernel) (pa_cons (pv 0) (pa_cons (pe_bltn (v := .ty "int") (by rfl) B.int (by decide +kernel) rfl) pa_nil))) (pe_and (pe_not (pe_callB call_isi (by rfl) B.isi (by decide +kernel) (pa_cons (pv 0) (pa_cons (pe_bltn (v := .ty "bool") (by rfl) B.bool (by decide +kernel) rfl) pa_nil)))) (pe_one (pe_cmpR op_eq (pv 0) (pv 1) (nomark _))))))) pss_nil)
      (pss_cons (ps_if (pt_val (pe_callB call_isi (by rfl) B.isi (by decide +kernel) (pa_cons (pv 1) (pa_cons (pe_bltn (v := .ty "str") (by rfl) B.str (by decide +kernel) rfl) pa_nil)))) (pss_one (ps_ret (pe_and (pe_callB call_isi (by rfl) B.isi (by decide +kernel) (pa_cons (pv 0) (pa_cons (pe_bltn (v := .ty "str") (by rfl) B.str (by decide +kernel) rfl) pa_nil))) (pe_one (pe_cmpR op_eq (pv 0) (pv 1) (nomark _)))))) pss_nil)
      (pss_cons ps_never (pss_cons ps_never (pss_cons ps_never (pss_one ps_never)))))))), ?_⟩
    rcases hv with ⟨z, rfl⟩ | ⟨i, rfl⟩ | ⟨b, rfl⟩
    · refine ⟨.str z, rfl, rfl, _, rfl, iteF ?_⟩
      refine ⟨.str z, rfl, .str z, .ty "bool", .type "str", .type "bool", false, rfl, .ty "bool", ty_txt, kit_ty (by decide +kernel), _, rfl, iteF ?_⟩
      refine ⟨.str z, rfl, .str z, .ty "int", .type "str", .type "int", false, rfl, .ty "int", ty_txt, kit_ty (by decide +kernel), _, rfl, iteF ?_⟩
      refine ⟨.str z, rfl, .str z, .ty "str", .type "str", .type "str", true, rfl, .ty "str", ty_txt, kit_ty (by decide +kernel), _, rfl, iteT ?_⟩
      refine ⟨.str z, rfl, .str z, .ty "str", .type "str", .type "str", true, rfl, .ty "str", ty_txt, kit_ty (by decide +kernel), _, rfl, iteT ?_⟩
      refine ⟨.str z, rfl, .str z, rfl, rfl, ?_⟩
      rw [decide_eq_true rfl]; exact q
    · refine ⟨.int i, rfl, rfl, _, rfl, iteF ?_⟩
      refine ⟨.int i, rfl, .int i, .ty "bool", .type "int", .type "bool", false, rfl, .ty "bool", .base (.int i), kit_ty (by decide +kernel), _, rfl, iteF ?_⟩
      refine ⟨.int i, rfl, .int i, .ty "int", .type "int", .type "int", true, rfl, .ty "int", .base (.int i), kit_ty (by decide +kernel), _, rfl, iteT ?_⟩
      refine ⟨.int i, rfl, .int i, .ty "int", .type "int", .type "int", true, rfl, .ty "int", .base (.int i), kit_ty (by decide +kernel), _, rfl, iteT ?_⟩
      refine ⟨.int i, rfl, .int i, .ty "bool", .type "int", .type "bool", false, rfl, .ty "bool", .base (.int i), kit_ty (by decide +kernel), _, rfl, _, rfl, iteT ?_⟩
      refine ⟨.int i, rfl, .int i, rfl, rfl, ?_⟩
      rw [decide_eq_true rfl]; exact q
    · refine ⟨.bl b, rfl, rfl, _, rfl, iteF ?_⟩
      refine ⟨.bl b, rfl, .bl b, .ty "bool", .type "bool", .type "bool", true, rfl, .ty "bool", .base (.bl b), kit_ty (by decide +kernel), _, rfl, iteT ?_⟩
      refine ⟨.bl b, rfl, .bl b, .ty "bool", .type "bool", .type "bool", true, rfl, .ty "bool", .base (.bl b), kit_ty (by decide +kernel), _, rfl, iteT ?_⟩
      refine ⟨.bl b, rfl, .bl b, rfl, rfl, ?_⟩
      rw [decide_eq_true rfl]; exact q
theorem ok_same1 {n : Nat} {f_same : Addr} {fd_same : FuncData} (B : Blt mg) (F_same : Fun K "_law_same" "_law_same" sSame f_same fd_same) (b_same : Binds K fd_same ["_law_one", "_law_two"] []) (g_same : mg "_law_same" = some (.ref f_same))
    (G_same : FnOk P w K mg base CX0 (n + 1) f_same fd_same ["_law_one", "_law_two"] (spSame n)) : FnOk P w K mg base CX0 (n + 2) f_same fd_same ["_law_one", "_law_two"] (spSame (n + 1)) := by
  refine F_same.ok scSame (fun vs H Q E h => ?_) (fun cdv A outer s H vs Q E hr h => ?_)
  · obtain ⟨x, y, rfl, _⟩ := h; rfl
  · obtain ⟨x, y, rfl, hv, q⟩ := h
    refine ⟨_, (pss_cons (ps_if (pt_cmpR op_isN (pv 1) pe_non (nomark _)) (pss_one ps_never) pss_nil)
      (pss_cons (ps_if (pt_val (pe_callB call_isi (by rfl) B.isi (by decide +kernel) (pa_cons (pv 1) (pa_cons (pe_bltn (v := .ty "bool") (by rfl) B.bool (by decide +kernel) rfl) pa_nil)))) (pss_one (ps_ret (pe_and (pe_callB call_isi (by rfl) B.isi (by decide +kernel) (pa_cons (pv 0) (pa_cons (pe_bltn (v := .ty "bool") (by rfl) B.bool (by decide +kernel) rfl) pa_nil))) (pe_one (pe_cmpR op_eq (pv 0) (pv 1) (nomark _)))))) pss_nil)
      (pss_cons (ps_if (pt_val (pe_callB call_isi (by rfl) B.isi (by decide +kernel) (pa_cons (pv 1) (pa_cons (pe_bltn (v := .ty "int") (by rfl) B.int (by decide +kernel) rfl) pa_nil)))) (pss_one (ps_ret (pe_and (pe_callB call_isi (by rfl) B.isi (by decide +kernel) (pa_cons (pv 0) (pa_cons (pe_bltn (v := .ty "int") (by rfl) B.int (by decide +kernel) rfl) pa_nil))) (pe_and (pe_not (pe_callB call_isi (by rfl) B.isi (by decide +kernel) (pa_cons (pv 0) (pa_cons (pe_bltn (v := .ty "bool") (by rfl) B.bool (by decide +kernel) rfl) pa_nil)))) (pe_one (pe_cmpR op_eq (pv 0) (pv 1) (nomark _))))))) pss_nil)
      (pss_cons (ps_if (pt_val (pe_callB call_isi (by rfl) B.isi (by decide +kernel) (pa_cons (pv 1) (pa_cons (pe_bltn (v := .ty "str") (by rfl) B.str (by decide +kernel) rfl) pa_nil)))) (pss_one (ps_ret (pe_and (pe_callB call_isi (by rfl) B.isi (by decide +kernel) (pa_cons (pv 0) (pa_cons (pe_bltn (v := .ty "str") (by rfl) B.str (by decide +kernel) rfl) pa_nil))) (pe_one (pe_cmpR op_eq (pv 0) (pv 1) (nomark _)))))) pss_nil)
      (pss_cons (ps_if (PW.pt (pw_and (pt_val (pe_callB call_isi (by rfl) B.isi (by decide +kernel) (pa_cons (pv 1) (pa_cons (pe_bltn (v := .ty "tuple") (by rfl) B.tuple (by decide +kernel) rfl) pa_nil)))) (pw_and1 (pt_not (pt_val (pe_callB call_isi (by rfl) B.isi (by decide +kernel) (pa_cons (pv 0) (pa_cons (pe_bltn (v := .ty "tuple") (by rfl) B.tuple (by decide +kernel) rfl) pa_nil)))))))) (pss_one ps_never) pss_nil)
      (pss_cons (ps_if (PW.pt (pw_and (pt_val (pe_callB call_isi (by rfl) B.isi (by decide +kernel) (pa_cons (pv 1) (pa_cons (pe_bltn (v := .ty "list") (by rfl) B.list (by decide +kernel) rfl) pa_nil)))) (pw_and1 (pt_not (pt_val (pe_callB call_isi (by rfl) B.isi (by decide +kernel) (pa_cons (pv 0) (pa_cons (pe_bltn (v := .ty "list") (by rfl) B.list (by decide +kernel) rfl) pa_nil)))))))) (pss_one ps_never) pss_nil)
      (pss_cons (ps_if (PW.pt (pw_or (pt_val (pe_callB call_isi (by rfl) B.isi (by decide +kernel) (pa_cons (pv 1) (pa_cons (pe_bltn (v := .ty "tuple") (by rfl) B.tuple (by decide +kernel) rfl) pa_nil)))) (pw_or1 (pt_val (pe_callB call_isi (by rfl) B.isi (by decide +kernel) (pa_cons (pv 1) (pa_cons (pe_bltn (v := .ty "list") (by rfl) B.list (by decide +kernel) rfl) pa_nil)))))))
       (pss_cons (ps_if (pt_cmpR op_ne (pe_callB call_len (by rfl) B.len PySem.boot_len (pa_cons (pv 0) pa_nil)) (pe_callB call_len (by rfl) B.len PySem.boot_len (pa_cons (pv 1) pa_nil)) (nomark _)) (pss_one (ps_ret pe_bl)) pss_nil)
       (pss_cons (ps_for (PassesOwn.never) rfl (pi_range1 (by rfl) B.range (pa_cons (pe_callB call_len (by rfl) B.len PySem.boot_len (pa_cons (pv 1) pa_nil)) pa_nil)) (pg_name (i := 2) scSame.nd rfl (.inl rfl))
        (pss_one (ps_if (pt_not (pt_val (pe_call G_same hr (by rfl) g_same F_same.kp b_same .nil pass0 (pa_cons (pe_ix (ix_list.or ix_tup) (pv 0) (pv 2) (fun _ _ => rfl)) (pa_cons (pe_ix (ix_list.or ix_tup) (pv 1) (pv 2) (fun _ _ => rfl)) pa_nil)))))
         (pss_one (ps_ret pe_bl)) pss_nil)))
       (pss_one (ps_ret pe_bl)))) pss_nil)
      (pss_one ps_never)))))))), ?_⟩
    rcases hv with ⟨rfl, hv⟩ | ⟨a, b, xs, ys, rfl, rfl, ⟨ha, hb⟩ | ⟨ha, hb⟩, hle, hx, hall⟩
    · rcases hv with ⟨z, rfl⟩ | ⟨i, rfl⟩ | ⟨b, rfl⟩
      · refine ⟨.str z, rfl, rfl, _, rfl, iteF ?_⟩
        refine ⟨.str z, rfl, .str z, .ty "bool", .type "str", .type "bool", false, rfl, .ty "bool", ty_txt, kit_ty (by decide +kernel), _, rfl, iteF ?_⟩
        refine ⟨.str z, rfl, .str z, .ty "int", .type "str", .type "int", false, rfl, .ty "int", ty_txt, kit_ty (by decide +kernel), _, rfl, iteF ?_⟩
        refine ⟨.str z, rfl, .str z, .ty "str", .type "str", .type "str", true, rfl, .ty "str", ty_txt, kit_ty (by decide +kernel), _, rfl, iteT ?_⟩
        refine ⟨.str z, rfl, .str z, .ty "str", .type "str", .type "str", true, rfl, .ty "str", ty_txt, kit_ty (by decide +kernel), _, rfl, iteT ?_⟩
        refine ⟨.str z, rfl, .str z, rfl, rfl, ?_⟩
        rw [decide_eq_true rfl]; exact q
      · refine ⟨.int i, rfl, rfl, _, rfl, iteF ?_⟩
        refine ⟨.int i, rfl, .int i, .ty "bool", .type "int", .type "bool", false, rfl, .ty "bool", .base (.int i), kit_ty (by decide +kernel), _, rfl, iteF ?_⟩
        refine ⟨.int i, rfl, .int i, .ty "int", .type "int", .type "int", true, rfl, .ty "int", .base (.int i), kit_ty (by decide +kernel), _, rfl, iteT ?_⟩
        refine ⟨.int i, rfl, .int i, .ty "int", .type "int", .type "int", true, rfl, .ty "int", .base (.int i), kit_ty (by decide +kernel), _, rfl, iteT ?_⟩
        refine ⟨.int i, rfl, .int i, .ty "bool", .type "int", .type "bool", false, rfl, .ty "bool", .base (.int i), kit_ty (by decide +kernel), _, rfl, _, rfl, iteT ?_⟩
        refine ⟨.int i, rfl, .int i, rfl, rfl, ?_⟩
        rw [decide_eq_true rfl]; exact q
      · refine ⟨.bl b, rfl, rfl, _, rfl, iteF ?_⟩
        refine ⟨.bl b, rfl, .bl b, .ty "bool", .type "bool", .type "bool", true, rfl, .ty "bool", .base (.bl b), kit_ty (by decide +kernel), _, rfl, iteT ?_⟩
        refine ⟨.bl b, rfl, .bl b, .ty "bool", .type "bool", .type "bool", true, rfl, .ty "bool", .base (.bl b), kit_ty (by decide +kernel), _, rfl, iteT ?_⟩
        refine ⟨.bl b, rfl, .bl b, rfl, rfl, ?_⟩
        rw [decide_eq_true rfl]; exact q
    · refine ⟨.ref b, rfl, rfl, _, rfl, iteF ?_⟩
      refine ⟨.ref b, rfl, .ref b, .ty "bool", .type "list", .type "bool", false, rfl, .ty "bool", ty_lst hb, kit_ty (by decide +kernel), _, rfl, iteF ?_⟩
      refine ⟨.ref b, rfl, .ref b, .ty "int", .type "list", .type "int", false, rfl, .ty "int", ty_lst hb, kit_ty (by decide +kernel), _, rfl, iteF ?_⟩
      refine ⟨.ref b, rfl, .ref b, .ty "str", .type "list", .type "str", false, rfl, .ty "str", ty_lst hb, kit_ty (by decide +kernel), _, rfl, iteF ?_⟩
      refine ⟨.ref b, rfl, .ref b, .ty "tuple", .type "list", .type "tuple", false, rfl, .ty "tuple", ty_lst hb, kit_ty (by decide +kernel), _, rfl, iteF ?_⟩
      refine ⟨.ref b, rfl, .ref b, .ty "list", .type "list", .type "list", true, rfl, .ty "list", ty_lst hb, kit_ty (by decide +kernel), _, rfl, iteT ?_⟩
      refine ⟨.ref a, rfl, .ref a, .ty "list", .type "list", .type "list", true, rfl, .ty "list", ty_lst ha, kit_ty (by decide +kernel), _, rfl, iteF ?_⟩
      refine ⟨.ref b, rfl, .ref b, .ty "tuple", .type "list", .type "tuple", false, rfl, .ty "tuple", ty_lst hb, kit_ty (by decide +kernel), _, rfl, iteF ?_⟩
      refine ⟨.ref b, rfl, .ref b, .ty "list", .type "list", .type "list", true, rfl, .ty "list", ty_lst hb, kit_ty (by decide +kernel), _, rfl, iteT ?_⟩
      refine ⟨.ref a, rfl, .ref a, xs.length, rfl, .inl ⟨_, SqL.of ha, rfl⟩, .ref b, rfl, .ref b, ys.length, rfl, .inl ⟨_, SqL.of hb, rfl⟩, rfl, _, rfl, ?_⟩
      rw [hle, decide_eq_true rfl]
      refine iteF ⟨.ref b, rfl, .ref b, ys.length, rfl, .inl ⟨_, SqL.of hb, rfl⟩, (ys.length : Int), rfl, by omega, by omega, ?_⟩
      rw [Int.toNat_natCast]
      refine for_range (lo := 0) (n := ys.length) (fun n σ H' => ∃ y, σ = [some (.ref a), some (.ref b), y] ∧ H' = H) ⟨none, rfl, rfl⟩ ?_ ?_
      · rintro k σ H' hk ⟨y, rfl, rfl⟩
        have e0 : (0 : Int) + (k : Int) = (k : Int) := by omega
        rw [e0]
        have g1 : xs[k]? = some (xs[k]'(by omega)) := by simp
        have g2 : ys[k]? = some (ys[k]'hk) := by simp
        refine ⟨.ref a, rfl, .int (k : Int), rfl, .inl ⟨a, xs, (k : Int), _, rfl, rfl, SqL.of ha, atI_nat g1, .ref b, rfl, .int (k : Int), rfl, .inl ⟨b, ys, (k : Int), _, rfl, rfl, SqL.of hb, atI_nat g2, ?_⟩⟩⟩
        exact ⟨_, _, rfl, hall k _ _ g1 g2, true, rfl, iteF ⟨_, rfl, rfl⟩⟩
      · rintro σ H' ⟨y, rfl, rfl⟩
        exact q
    · refine ⟨.ref b, rfl, rfl, _, rfl, iteF ?_⟩
      refine ⟨.ref b, rfl, .ref b, .ty "bool", .type "tuple", .type "bool", false, rfl, .ty "bool", ty_tup hb, kit_ty (by decide +kernel), _, rfl, iteF ?_⟩
      refine ⟨.ref b, rfl, .ref b, .ty "int", .type "tuple", .type "int", false, rfl, .ty "int", ty_tup hb, kit_ty (by decide +kernel), _, rfl, iteF ?_⟩
      refine ⟨.ref b, rfl, .ref b, .ty "str", .type "tuple", .type "str", false, rfl, .ty "str", ty_tup hb, kit_ty (by decide +kernel), _, rfl, iteF ?_⟩
      refine ⟨.ref b, rfl, .ref b, .ty "tuple", .type "tuple", .type "tuple", true, rfl, .ty "tuple", ty_tup hb, kit_ty (by decide +kernel), _, rfl, iteT ?_⟩
      refine ⟨.ref a, rfl, .ref a, .ty "tuple", .type "tuple", .type "tuple", true, rfl, .ty "tuple", ty_tup ha, kit_ty (by decide +kernel), _, rfl, iteF ?_⟩
      refine ⟨.ref b, rfl, .ref b, .ty "list", .type "tuple", .type "list", false, rfl, .ty "list", ty_tup hb, kit_ty (by decide +kernel), _, rfl, iteF ?_⟩
      refine ⟨.ref b, rfl, .ref b, .ty "tuple", .type "tuple", .type "tuple", true, rfl, .ty "tuple", ty_tup hb, kit_ty (by decide +kernel), _, rfl, iteT ?_⟩
      refine ⟨.ref a, rfl, .ref a, xs.length, rfl, .inr ⟨_, SqT.of ha, rfl⟩, .ref b, rfl, .ref b, ys.length, rfl, .inr ⟨_, SqT.of hb, rfl⟩, rfl, _, rfl, ?_⟩
      rw [hle, decide_eq_true rfl]
      refine iteF ⟨.ref b, rfl, .ref b, ys.length, rfl, .inr ⟨_, SqT.of hb, rfl⟩, (ys.length : Int), rfl, by omega, by omega, ?_⟩
      rw [Int.toNat_natCast]
      refine for_range (lo := 0) (n := ys.length) (fun n σ H' => ∃ y, σ = [some (.ref a), some (.ref b), y] ∧ H' = H) ⟨none, rfl, rfl⟩ ?_ ?_
      · rintro k σ H' hk ⟨y, rfl, rfl⟩
        have e0 : (0 : Int) + (k : Int) = (k : Int) := by omega
        rw [e0]
        have g1 : xs[k]? = some (xs[k]'(by omega)) := by simp
        have g2 : ys[k]? = some (ys[k]'hk) := by simp
        refine ⟨.ref a, rfl, .int (k : Int), rfl, .inr ⟨a, xs, (k : Int), _, rfl, rfl, SqT.of ha, atI_nat g1, .ref b, rfl, .int (k : Int), rfl, .inr ⟨b, ys, (k : Int), _, rfl, rfl, SqT.of hb, atI_nat g2, ?_⟩⟩⟩
        exact ⟨_, _, rfl, hall k _ _ g1 g2, true, rfl, iteF ⟨_, rfl, rfl⟩⟩
      · rintro σ H' ⟨y, rfl, rfl⟩
        exact q
theorem ok_same {f_same : Addr} {fd_same : FuncData} (B : Blt mg) (F_same : Fun K "_law_same" "_law_same" sSame f_same fd_same) (b_same : Binds K fd_same ["_law_one", "_law_two"] []) (g_same : mg "_law_same" = some (.ref f_same)) :
    ∀ n, FnOk P w K mg base CX0 (n + 1) f_same fd_same ["_law_one", "_law_two"] (spSame n)
  | 0 => ok_same0 B F_same
  | n + 1 => ok_same1 B F_same b_same g_same (ok_same B F_same b_same g_same n)
/-! ### the errors -/
def spEI (K : PySem.W.Frag) (C : Addr) (fld : Str) : Sp := fun vs H Q _ => ∃ (a : Addr) (v : V), vs = [.ref a, v] ∧ H a = some (exo a C none) ∧ OexC K C ∧ PySem.W.findIn K (.ref C) fld = some none ∧
  ∀ d, H d = none → d ≠ a → Q .non (upd (upd H d (exd d [(fld, v)])) a (exo a C (some d)))
theorem heap_err {H : Hp} {a d C : Addr} {v : V} {fld : Str} (ha : H a = none) (hd : H d = none) (hne : d ≠ a) :
    upd (del (upd (upd (upd H a (exo a C none)) d (exd d [(fld, v)])) a (exo a C (some d))) a) d (.xd [(fld, v)]) = upd H d (.xd [(fld, v)]) := by
  funext b
  by_cases h1 : b = d
  · subst h1; rw [upd_same, upd_same]
  · rw [upd_ne h1, upd_ne h1]
    by_cases h2 : b = a
    · subst h2; rw [del_same, ha]
    · rw [del_ne h2, upd_ne h2, upd_ne h1, upd_ne h2]
theorem raise_err {C : Addr} {v : V} {H : Hp} {Q : XK} {fld : Str} (o : OexC K C) (fp : PySem.W.findIn K (.ref C) fld = some none) (q : ∀ d, H d = none → Q (.ref C) (some d) (upd H d (.xd [(fld, v)]))) :
    [v].length ≤ 1000 ∧ ∀ a, H a = none → spEI K C fld (.ref a :: ([v] ++ [])) (upd H a (exo a C none))
      (fun u H2 => u = .non ∧ ∃ (d : Addr) (fs : List (Str × V)), H2 a = some (exo a C (some d)) ∧ H2 d = some (exd d fs) ∧ H d = none ∧ Q (.ref C) (some d) (upd (del H2 a) d (.xd fs))) (fun _ _ _ => False) := by
  refine ⟨by show 1 ≤ 1000; decide, fun a ha => ⟨a, v, rfl, upd_same, o, fp, fun d h1 hne => ⟨rfl, d, [(fld, v)], upd_same, ?_, ?_, ?_⟩⟩⟩
  · rw [upd_ne hne, upd_same]
  · rw [upd_ne hne] at h1; exact h1
  · rw [upd_ne hne] at h1
    rw [heap_err ha h1 hne]; exact q d h1

theorem scBbI : FnScope ["self", "field"] ["self", "field"] (defScope sBadI) := ⟨rfl, rfl, rfl, by decide +kernel, rfl, by decide +kernel, by decide +kernel⟩
structure BbE (K : PySem.W.Frag) (mg : Str → Option Value) (C fI : Addr) (fd : FuncData) : Prop where
  gC : mg "BadBook" = some (.ref C)
  oex : OexC K C
  fp : PySem.W.findIn K (.ref C) "field" = some none
  iC : PySem.W.findIn K (.ref C) "__init__" = some (some (.ref fI))
  tI : PySem.W.typeIn K (.ref fI) = some (.type "function")
  F : Fun K "__init__" "BadBook.__init__" sBadI fI fd
  b : Binds K fd ["self", "field"] []
def spBbI (K : PySem.W.Frag) (C : Addr) : Sp := spEI K C "field"
theorem ok_BbI {f C : Addr} {fd : FuncData} (F : Fun K "__init__" "BadBook.__init__" sBadI f fd) : FnOk P w K mg base CX0 1 f fd ["self", "field"] (spBbI K C) := by
  refine F.ok scBbI (fun vs H Q E h => ?_) (fun cdv A outer s H vs Q E hr h => ?_)
  · obtain ⟨a, v, rfl, _⟩ := h; rfl
  · obtain ⟨a, v, rfl, ha, o, fp, q⟩ := h
    refine ⟨_, pss_one (ps_ost (pv 0) (pv 1)), ?_⟩
    exact ⟨_, rfl, _, rfl, a, C, rfl, o, fp, .inl ⟨ha, fun dx h1 h2 => q dx h1 h2⟩⟩

end
end K35

set_option maxRecDepth 100000
set_option maxHeartbeats 8000000
namespace K35
open PySem PySem.Spec PyProof.Rows L2
/-! ### values, due -/
def names : List Str := [Str.ofString "room", Str.ofString "height", Str.ofString "joint", Str.ofString "over", Str.ofString "keep", Str.ofString "orphan", Str.ofString "widow", Str.ofString "wait", Str.ofString "columns", Str.ofString "gutter", Str.ofString "full"]
def los : List Int := [1, 1, 0, 0, 0, 0, 0, 0, 1, 0]
def his : List Int := [2000, 2000, 2000, 2000, 2000, 2000, 2000, 2000, 4, 40]
/-- a value of any kind the law draws -/
def OddV (H : Hp) (v : V) : Prop := (∃ i, v = .int i) ∨ (∃ b, v = .bl b) ∨ v = .non ∨ (∃ z, v = .str z) ∨ ∃ (t : Addr) (xs : List V), v = .ref t ∧ H t = some (.tup xs)
theorem OddV.same {H H' : Hp} {v : V} (h : OddV H v) (s : Same H H') : OddV H' v := by
  rcases h with h | h | h | h | ⟨t, xs, e, h⟩
  · exact .inl h
  · exact .inr (.inl h)
  · exact .inr (.inr (.inl h))
  · exact .inr (.inr (.inr (.inl h)))
  · exact .inr (.inr (.inr (.inr ⟨t, xs, e, s _ _ h⟩)))
def isNum : V → Bool
  | .int _ => true
  | _ => false
def fitsB (k : Nat) : V → Bool
  | .int i => decide (k < 10) && (decide (los.getD k 0 ≤ i) && decide (i ≤ his.getD k 0))
  | .bl _ => decide (k = 10)
  | _ => false
/-- the first that doesn't fit, from k on -/
def badF : Nat → List V → Option Nat
  | _, [] => none
  | k, v :: vs => if fitsB k v then badF (k + 1) vs else some k
theorem badF_at {vs : List V} {i : Nat} {v : V} (h : vs[i]? = some v) : badF i (vs.drop i) = if fitsB i v then badF (i + 1) (vs.drop (i + 1)) else some i := by
  have hl := List.getElem?_eq_some_iff.mp h
  obtain ⟨h1, h2⟩ := hl
  rw [List.drop_eq_getElem_cons h1, h2]; rfl
section
variable {P : Program} {w : World} {K : PySem.W.Frag} {mg : Str → Option Value} {base : Heap}
def spNames : Sp := fun vs H Q _ => vs = [] ∧ ∀ H' p, Same H H' → H p = none → H' p = some (.lst (names.map V.str)) → Q (.ref p) H'
theorem scNames : FnScope [] [] (defScope sNames) := ⟨rfl, rfl, rfl, by decide +kernel, rfl, by decide +kernel, by decide +kernel⟩
theorem ok_names {f : Addr} {fd : FuncData} (F : Fun K "_law_names" "_law_names" sNames f fd) : FnOk P w K mg base CX0 1 f fd [] spNames := by
  refine F.ok scNames (fun vs H Q E h => ?_) (fun cdv A0 outer s H vs Q E hr h => ?_)
  · obtain ⟨rfl, _⟩ := h; rfl
  · obtain ⟨rfl, q⟩ := h
    refine ⟨_, (pss_one (ps_ret (pe_lst (pa_cons pe_str (pa_cons pe_str (pa_cons pe_str (pa_cons pe_str (pa_cons pe_str (pa_cons pe_str (pa_cons pe_str (pa_cons pe_str (pa_cons pe_str (pa_cons pe_str (pa_cons pe_str pa_nil)))))))))))))), ?_⟩
    exact ⟨by show 11 ≤ sizeLine; decide, fun p np => q _ p (same_new np) np upd_same⟩
def spBounds : Sp := fun vs H Q _ => ∃ k : Nat, vs = [.int (k : Int)] ∧ k < 10 ∧ ∀ H' t, Same H H' → H' t = some (.tup [.int (los.getD k 0), .int (his.getD k 0)]) → Q (.ref t) H'
theorem scBounds : FnScope ["_law_k"] ["_law_k"] (defScope sBounds) := ⟨rfl, rfl, rfl, by decide +kernel, rfl, by decide +kernel, by decide +kernel⟩
theorem ok_bounds {f : Addr} {fd : FuncData} (F : Fun K "_law_bounds" "_law_bounds" sBounds f fd) : FnOk P w K mg base CX0 1 f fd ["_law_k"] spBounds := by
  refine F.ok scBounds (fun vs H Q E h => ?_) (fun cdv A0 outer s H vs Q E hr h => ?_)
  · obtain ⟨k, rfl, _⟩ := h; rfl
  · obtain ⟨k, rfl, hk, q⟩ := h
    refine ⟨_, (pss_one (ps_ret (pe_tup (pa_cons (pe_ix ix_list (pe_lst (pa_cons pe_int (pa_cons pe_int (pa_cons pe_int (pa_cons pe_int (pa_cons pe_int (pa_cons pe_int (pa_cons pe_int (pa_cons pe_int (pa_cons pe_int (pa_cons pe_int pa_nil))))))))))) (pv 0) (fun _ _ => rfl)) (pa_cons (pe_ix ix_list (pe_lst (pa_cons pe_int (pa_cons pe_int (pa_cons pe_int (pa_cons pe_int (pa_cons pe_int (pa_cons pe_int (pa_cons pe_int (pa_cons pe_int (pa_cons pe_int (pa_cons pe_int pa_nil))))))))))) (pv 0) (fun _ _ => rfl)) pa_nil))))), ?_⟩
    have e1 : atI (los.map V.int) (k : Int) = some (.int (los.getD k 0)) := atI_nat (by
      rw [List.getElem?_map, List.getD_eq_getElem?_getD]
      have : los[k]? = some (los[k]'hk) := List.getElem?_eq_getElem _
      rw [this]; rfl)
    have e2 : atI (his.map V.int) (k : Int) = some (.int (his.getD k 0)) := atI_nat (by
      rw [List.getElem?_map, List.getD_eq_getElem?_getD]
      have : his[k]? = some (his[k]'hk) := List.getElem?_eq_getElem _
      rw [this]; rfl)
    refine ⟨by show 10 ≤ sizeLine; decide, fun l1 n1 => ?_⟩
    have s1 := same_new n1 (o := .lst (los.map V.int))
    refine ⟨.int (k : Int), rfl, l1, _, _, _, rfl, rfl, SqL.of upd_same, e1, ?_⟩
    refine ⟨by show 10 ≤ sizeLine; decide, fun l2 n2 => ?_⟩
    have s2 := same_new n2 (o := .lst (his.map V.int))
    refine ⟨.int (k : Int), rfl, l2, _, _, _, rfl, rfl, SqL.of upd_same, e2, ?_⟩
    exact ⟨by show 2 ≤ sizeLine; decide, fun t nt => q _ t (s1.trans (s2.trans (same_new nt))) upd_same⟩
/-- of anything -/
def spNum : Sp := fun vs H Q _ => ∃ v, vs = [v] ∧ OddV H v ∧ Q (.bl (isNum v)) H
theorem ok_num {f : Addr} {fd : FuncData} (B : Blt mg) (F : Fun K "_law_number" "_law_number" sNumber f fd) : FnOk P w K mg base CX0 1 f fd ["_law_value"] spNum := by
  refine F.ok scNumber (fun vs H Q E h => ?_) (fun cdv A0 outer s H vs Q E hr h => ?_)
  · obtain ⟨v, rfl, _⟩ := h; rfl
  · obtain ⟨v, rfl, hv, q⟩ := h
    refine ⟨_, (pss_one (ps_ret (pe_and (pe_callB call_isi (by rfl) B.isi (by decide +kernel) (pa_cons (pv 0) (pa_cons (pe_bltn (v := .ty "int") (by rfl) B.int (by decide +kernel) rfl) pa_nil))) (pe_one (pe_not (pe_callB call_isi (by rfl) B.isi (by decide +kernel) (pa_cons (pv 0) (pa_cons (pe_bltn (v := .ty "bool") (by rfl) B.bool (by decide +kernel) rfl) pa_nil)))))))), ?_⟩
    rcases hv with ⟨i, rfl⟩ | ⟨b, rfl⟩ | rfl | ⟨z, rfl⟩ | ⟨t, xs, rfl, ht⟩
    · exact ⟨.int i, rfl, .int i, .ty "int", .type "int", .type "int", true, rfl, .ty "int", .base (.int i), kit_ty (by decide +kernel), _, rfl, iteT ⟨.int i, rfl, .int i, .ty "bool", .type "int", .type "bool", false, rfl, .ty "bool", .base (.int i), kit_ty (by decide +kernel), _, rfl, q⟩⟩
    · exact ⟨.bl b, rfl, .bl b, .ty "int", .type "bool", .type "int", true, rfl, .ty "int", .base (.bl b), kit_ty (by decide +kernel), _, rfl, iteT ⟨.bl b, rfl, .bl b, .ty "bool", .type "bool", .type "bool", true, rfl, .ty "bool", .base (.bl b), kit_ty (by decide +kernel), _, rfl, q⟩⟩
    · exact ⟨.non, rfl, .non, .ty "int", .type "NoneType", .type "int", false, rfl, .ty "int", .base .non, kit_ty (by decide +kernel), _, rfl, iteF q⟩
    · exact ⟨.str z, rfl, .str z, .ty "int", .type "str", .type "int", false, rfl, .ty "int", ty_txt, kit_ty (by decide +kernel), _, rfl, iteF q⟩
    · exact ⟨.ref t, rfl, .ref t, .ty "int", .type "tuple", .type "int", false, rfl, .ty "int", ty_tup ht, kit_ty (by decide +kernel), _, rfl, iteF q⟩
def spFits : Sp := fun vs H Q _ => ∃ (k : Nat) (v : V), vs = [.int (k : Int), v] ∧ k ≤ 10 ∧ OddV H v ∧ ∀ H', Same H H' → Q (.bl (fitsB k v)) H'
abbrev pFi : List Str := ["_law_k", "_law_value"]
theorem scFits : FnScope pFi pFi (defScope sFits) := ⟨rfl, rfl, rfl, by decide +kernel, rfl, by decide +kernel, by decide +kernel⟩
theorem ok_fits {f f_number f_bounds : Addr} {fd fd_number fd_bounds : FuncData} (B : Blt mg) (F : Fun K "_law_fits" "_law_fits" sFits f fd)
    (F_number : Fun K "_law_number" "_law_number" sNumber f_number fd_number) (b_number : Binds K fd_number ["_law_value"] []) (g_number : mg "_law_number" = some (.ref f_number))
    (F_bounds : Fun K "_law_bounds" "_law_bounds" sBounds f_bounds fd_bounds) (b_bounds : Binds K fd_bounds ["_law_k"] []) (g_bounds : mg "_law_bounds" = some (.ref f_bounds)) : FnOk P w K mg base CX0 2 f fd pFi spFits := by
  have G_number : FnOk P w K mg base CX0 1 f_number fd_number ["_law_value"] spNum := ok_num B F_number
  have G_bounds : FnOk P w K mg base CX0 1 f_bounds fd_bounds ["_law_k"] spBounds := ok_bounds F_bounds
  refine F.ok scFits (fun vs H Q E h => ?_) (fun cdv A0 outer s H vs Q E hr h => ?_)
  · obtain ⟨k, v, rfl, _⟩ := h; rfl
  · obtain ⟨k, v, rfl, hk, hv, q⟩ := h
    refine ⟨_, (pss_cons (ps_if (pt_cmpR op_eq (pv 0) pe_int (nomark _))
      (pss_one (ps_ret (pe_callB call_isi (by rfl) B.isi (by decide +kernel) (pa_cons (pv 1) (pa_cons (pe_bltn (v := .ty "bool") (by rfl) B.bool (by decide +kernel) rfl) pa_nil)))))
      pss_nil)
      (pss_one (ps_ret (pe_and (pe_call G_number hr (by rfl) g_number F_number.kp b_number .nil pass0 (pa_cons (pv 1) pa_nil)) (pe_one (pe_chain op_le op_le (pe_ix ix_tup (pe_call G_bounds hr (by rfl) g_bounds F_bounds.kp b_bounds .nil pass0 (pa_cons (pv 0) pa_nil)) pe_int (fun _ _ => rfl)) (pv 1) (pe_ix ix_tup (pe_call G_bounds hr (by rfl) g_bounds F_bounds.kp b_bounds .nil pass0 (pa_cons (pv 0) pa_nil)) pe_int (fun _ _ => rfl)))))))), ?_⟩
    refine ⟨.int (k : Int), rfl, rfl, _, rfl, ite2 (fun h => ?_) (fun h => ?_)⟩
    · have h10 : k = 10 := by have := V.int.inj (of_decide_eq_true h); omega
      subst h10
      have q := q H (Same.refl H)
      rcases hv with ⟨i, rfl⟩ | ⟨b, rfl⟩ | rfl | ⟨z, rfl⟩ | ⟨t, xs, rfl, ht⟩
      · exact ⟨.int i, rfl, .int i, .ty "bool", .type "int", .type "bool", false, rfl, .ty "bool", .base (.int i), kit_ty (by decide +kernel), q⟩
      · exact ⟨.bl b, rfl, .bl b, .ty "bool", .type "bool", .type "bool", true, rfl, .ty "bool", .base (.bl b), kit_ty (by decide +kernel), q⟩
      · exact ⟨.non, rfl, .non, .ty "bool", .type "NoneType", .type "bool", false, rfl, .ty "bool", .base .non, kit_ty (by decide +kernel), q⟩
      · exact ⟨.str z, rfl, .str z, .ty "bool", .type "str", .type "bool", false, rfl, .ty "bool", ty_txt, kit_ty (by decide +kernel), q⟩
      · exact ⟨.ref t, rfl, .ref t, .ty "bool", .type "tuple", .type "bool", false, rfl, .ty "bool", ty_tup ht, kit_ty (by decide +kernel), q⟩
    · have h10 : k < 10 := by
        have : k ≠ 10 := fun z => h (decide_eq_true (by rw [z]; rfl))
        omega
      refine ⟨v, rfl, v, rfl, hv, _, rfl, ?_⟩
      rcases hv with ⟨i, rfl⟩ | ⟨b, rfl⟩ | rfl | ⟨z, rfl⟩ | ⟨t, xs, rfl, ht⟩
      · refine iteT ⟨.int (k : Int), rfl, k, rfl, h10, fun H1 t1 s1 ht1 => ?_⟩
        refine ⟨t1, _, 0, _, rfl, rfl, SqT.of ht1, rfl, .int i, rfl, _, _, rfl, rfl, _, rfl, ?_⟩
        refine ite2 (fun h1 => ?_) (fun h1 => ?_)
        · refine ⟨.int (k : Int), rfl, k, rfl, h10, fun H2 t2 s2 ht2 => ?_⟩
          refine ⟨t2, _, 1, _, rfl, rfl, SqT.of ht2, rfl, _, _, rfl, rfl, ?_⟩
          have e : fitsB k (.int i) = decide (i ≤ his.getD k 0) := by
            show (decide (k < 10) && (decide (los.getD k 0 ≤ i) && decide (i ≤ his.getD k 0))) = _
            rw [decide_eq_true h10, h1]; rfl
          have := q _ (s1.trans s2)
          rw [e] at this
          exact this
        · have e : fitsB k (.int i) = false := by
            show (decide (k < 10) && (decide (los.getD k 0 ≤ i) && decide (i ≤ his.getD k 0))) = _
            rw [Bool.eq_false_iff.mpr h1, Bool.false_and, Bool.and_false]
          have := q _ s1
          rw [e] at this
          exact this
      · have e : fitsB k (.bl b) = false := decide_eq_false (by omega)
        refine iteF ?_
        have := q H (Same.refl H)
        rw [e] at this; exact this
      · exact iteF (q H (Same.refl H))
      · exact iteF (q H (Same.refl H))
      · exact iteF (q H (Same.refl H))
/-- what is due for eleven values -/
def spDue : Sp := fun vs H Q _ => ∃ (a : Addr) (xs : List V), vs = [.ref a] ∧ H a = some (.lst xs) ∧ xs.length = 11 ∧ (∀ x ∈ xs, OddV H x) ∧
  (∀ k, badF 0 xs = some k → ∀ H' t, Same H H' → H' t = some (.tup [.str (Str.ofString "no"), .str (names.getD k (Str.ofString "")), .bl true]) → Q (.ref t) H') ∧
  (badF 0 xs = none → ∀ H' p, Same H H' → H p = none → H' p = some (.lst xs) → Q (.ref p) H')
theorem scDue : FnScope ["_law_values_here", "_law_k"] ["_law_values_here"] (defScope sDue) := ⟨rfl, rfl, rfl, by decide +kernel, rfl, by decide +kernel, by decide +kernel⟩
theorem ok_due {f f_fits f_names f_number f_bounds : Addr} {fd fd_fits fd_names fd_number fd_bounds : FuncData} (B : Blt mg) (F : Fun K "_law_due" "_law_due" sDue f fd)
    (F_fits : Fun K "_law_fits" "_law_fits" sFits f_fits fd_fits) (b_fits : Binds K fd_fits pFi []) (g_fits : mg "_law_fits" = some (.ref f_fits))
    (F_names : Fun K "_law_names" "_law_names" sNames f_names fd_names) (b_names : Binds K fd_names [] []) (g_names : mg "_law_names" = some (.ref f_names))
    (F_number : Fun K "_law_number" "_law_number" sNumber f_number fd_number) (b_number : Binds K fd_number ["_law_value"] []) (g_number : mg "_law_number" = some (.ref f_number))
    (F_bounds : Fun K "_law_bounds" "_law_bounds" sBounds f_bounds fd_bounds) (b_bounds : Binds K fd_bounds ["_law_k"] []) (g_bounds : mg "_law_bounds" = some (.ref f_bounds)) : FnOk P w K mg base CX0 3 f fd ["_law_values_here"] spDue := by
  have G_fits : FnOk P w K mg base CX0 2 f_fits fd_fits pFi spFits := ok_fits B F_fits F_number b_number g_number F_bounds b_bounds g_bounds
  have G_names : FnOk P w K mg base CX0 1 f_names fd_names [] spNames := ok_names F_names
  refine F.ok scDue (fun vs H Q E h => ?_) (fun cdv A0 outer s H vs Q E hr h => ?_)
  · obtain ⟨a, xs, rfl, _⟩ := h; rfl
  · obtain ⟨a, xs, rfl, ha, hl, ho, qk, qn⟩ := h
    have hr2 : Room 2 _ := hr
    have hr1 : Room 1 _ := hr.mono (by decide)
    refine ⟨_, (pss_cons (ps_for (PassesOwn.never) rfl (pi_range1 (by rfl) B.range (pa_cons pe_int pa_nil)) (pg_name (i := 1) scDue.nd rfl (.inl rfl))
      (pss_one (ps_if (pt_not (pt_val (pe_call G_fits hr2 (by rfl) g_fits F_fits.kp b_fits .nil pass0 (pa_cons (pv 1) (pa_cons (pe_ix ix_list (pv 0) (pv 1) (fun _ _ => rfl)) pa_nil)))))
       (pss_one (ps_ret (pe_tup (pa_cons pe_str (pa_cons (pe_ix ix_list (pe_call0 G_names hr1 (by rfl) g_names F_names.kp b_names .nil pass0) (pv 1) (fun _ _ => rfl)) (pa_cons pe_bl pa_nil))))))
       pss_nil)))
      (pss_one (ps_ret (pe_callTy call_list_of (by rfl) B.list (by decide +kernel) (pa_cons (pv 0) pa_nil))))), ?_⟩
    refine ⟨11, rfl, by decide, by decide, ?_⟩
    refine for_range (lo := 0) (n := 11) (fun i σ H' => ∃ y : Option V, σ = [some (.ref a), y] ∧ Same H H' ∧ badF 0 xs = badF i (xs.drop i)) ⟨none, rfl, Same.refl H, rfl⟩ ?_ ?_
    · rintro i σ H' hi ⟨y, rfl, sm, hb⟩
      have e0 : (0 : Int) + (i : Int) = (i : Int) := by omega
      rw [e0]
      obtain ⟨v, en⟩ : ∃ v, xs[i]? = some v := ⟨_, List.getElem?_eq_getElem (by omega)⟩
      rw [badF_at en] at hb
      refine ⟨.int (i : Int), rfl, .ref a, rfl, .int (i : Int), rfl, a, _, _, v, rfl, rfl, SqL.of (sm _ _ ha), atI_nat en, i, v, rfl, by omega, (ho v (List.mem_of_getElem? en)).same sm, fun H1 s1 => ?_⟩
      have sm1 := sm.trans s1
      cases hf : fitsB i v with
      | true =>
        rw [hf, if_pos rfl] at hb
        exact ⟨true, rfl, iteF ⟨_, rfl, sm1, hb⟩⟩
      | false =>
        rw [hf, if_neg Bool.false_ne_true] at hb
        refine ⟨false, rfl, iteT ⟨rfl, fun H2 p s2 np hp => ?_⟩⟩
        refine ⟨.int (i : Int), rfl, p, _, _, .str (names.getD i (Str.ofString "")), rfl, rfl, SqL.of hp, atI_nat (by
          rw [List.getElem?_map, List.getD_eq_getElem?_getD]
          have : names[i]? = some (names[i]'hi) := List.getElem?_eq_getElem _
          rw [this]; rfl), ?_⟩
        exact ⟨by show 3 ≤ sizeLine; decide, fun t nt => qk i hb _ t (sm1.trans (s2.trans (same_new nt))) upd_same⟩
    · rintro σ H' ⟨y, rfl, sm, hb⟩
      rw [show xs.drop 11 = [] from List.drop_eq_nil_of_le (by omega)] at hb
      exact ⟨.ref a, rfl, a, _, rfl, .inl (SqL.of (sm _ _ ha)), fun p np => qn hb _ p (sm.trans (same_new np)) (sm.free np) upd_same⟩
end
end K35

set_option maxRecDepth 100000
set_option maxHeartbeats 8000000
namespace K35
open PySem PySem.Spec PyProof.Rows L2
/-- values that all fit -/
def Good (xs : List V) : Prop := xs.length = 11 ∧ ∀ k v, xs[k]? = some v → fitsB k v = true
theorem fits_odd {H : Hp} {k : Nat} {v : V} (h : fitsB k v = true) : OddV H v := by
  cases v with
  | int i => exact .inl ⟨i, rfl⟩
  | bl b => exact .inr (.inl ⟨b, rfl⟩)
  | _ => cases h
theorem Good.odd {H : Hp} {xs : List V} (h : Good xs) : ∀ x ∈ xs, OddV H x := fun x hx => by
  obtain ⟨k, hk⟩ := List.mem_iff_getElem?.mp hx
  exact fits_odd (h.2 k x hk)
theorem Good.nobad {xs : List V} (h : Good xs) : badF 0 xs = none := by
  have go : ∀ n k, k + n = 11 → badF k (xs.drop k) = none := by
    intro n
    induction n with
    | zero =>
      intro k hk
      rw [show xs.drop k = [] from List.drop_eq_nil_of_le (by rw [h.1]; omega)]; rfl
    | succ n ih =>
      intro k hk
      obtain ⟨v, hv⟩ : ∃ v, xs[k]? = some v := ⟨_, List.getElem?_eq_getElem (by rw [h.1]; omega)⟩
      rw [badF_at hv, h.2 k v hv, if_pos rfl]
      exact ih (k + 1) (by omega)
  exact go 11 0 rfl
section
variable {P : Program} {w : World} {K : PySem.W.Frag} {mg : Str → Option Value} {base : Heap}
theorem los_his : ∀ k, k < 10 → los.getD k 0 ≤ his.getD k 0 ∧ his.getD k 0 ≤ 2000 ∧ 0 ≤ los.getD k 0 := by decide
def spValues : Sp := fun vs H Q _ => ∃ (r : Addr) (rs : List Int), vs = [.ref r] ∧ H r = some (.lst (rs.map V.int)) ∧ rs.length = 21 ∧ ∀ H' p xs, Same H H' → H p = none → H' p = some (.lst xs) → Good xs → Q (.ref p) H'
abbrev nVa : List Str := ["_law_row_here", "_law_values_here", "_law_k", "_law_least", "_law_most", "_law_value"]
theorem scValues : FnScope nVa ["_law_row_here"] (defScope sValues) := ⟨rfl, rfl, rfl, by decide +kernel, rfl, by decide +kernel, by decide +kernel⟩
theorem ok_values {f f_bounds : Addr} {fd fd_bounds : FuncData} (B : Blt mg) (F : Fun K "_law_values" "_law_values" sValues f fd)
    (F_bounds : Fun K "_law_bounds" "_law_bounds" sBounds f_bounds fd_bounds) (b_bounds : Binds K fd_bounds ["_law_k"] []) (g_bounds : mg "_law_bounds" = some (.ref f_bounds)) : FnOk P w K mg base CX0 2 f fd ["_law_row_here"] spValues := by
  have G_bounds : FnOk P w K mg base CX0 1 f_bounds fd_bounds ["_law_k"] spBounds := ok_bounds F_bounds
  refine F.ok scValues (fun vs H Q E h => ?_) (fun cdv A0 outer s H vs Q E hr h => ?_)
  · obtain ⟨r, rs, rfl, _⟩ := h; rfl
  · obtain ⟨r, rs, rfl, hR, hl, q⟩ := h
    have rat : ∀ j : Nat, j < 21 → ∃ x, atI (rs.map V.int) (j : Int) = some (.int x) := fun j hj => by
      obtain ⟨x, hx⟩ : ∃ x, rs[j]? = some x := ⟨_, List.getElem?_eq_getElem (by omega)⟩
      exact ⟨x, atI_nat (by rw [List.getElem?_map, hx]; rfl)⟩
    refine ⟨_, (pss_cons (ps_set (i := 1) scValues.nd rfl (.inl rfl) (pe_lst pa_nil))
      (pss_cons (ps_for (PassesOwn.never) rfl (pi_range1 (by rfl) B.range (pa_cons pe_int pa_nil)) (pg_name (i := 2) scValues.nd rfl (.inl rfl))
      (pss_cons (ps_asg (pe_call G_bounds hr (by rfl) g_bounds F_bounds.kp b_bounds .nil pass0 (pa_cons (pv 2) pa_nil)) (pg_tup rfl (pgs_cons (pg_name (i := 3) scValues.nd rfl (.inl rfl)) (pgs_cons (pg_name (i := 4) scValues.nd rfl (.inl rfl)) pgs_nil))))
       (pss_cons (ps_set (i := 5) scValues.nd rfl (.inl rfl) (pe_op op_add (pv 3) (pe_op op_modN (pe_callTy call_int1 (by rfl) B.int (by decide +kernel) (pa_cons (pe_ix ix_list (pv 0) (pe_op op_add (pe_op op_mul pe_int (pv 2)) pe_int) (fun _ _ => rfl)) pa_nil)) (pe_op op_add (pe_op op_sub (pv 4) (pv 3)) pe_int))))
       (Evl.pss_cut (ps_if (pt_cmpR op_eq (pe_ix ix_list (pv 0) (pe_op op_mul pe_int (pv 2)) (fun _ _ => rfl)) pe_int (nomark _))
       (pss_one (ps_set (i := 5) scValues.nd rfl (.inl rfl) (pv 3)))
       pss_nil)
       (Evl.pss_cut (ps_if (pt_cmpR op_eq (pe_ix ix_list (pv 0) (pe_op op_mul pe_int (pv 2)) (fun _ _ => rfl)) pe_int (nomark _))
       (pss_one (ps_set (i := 5) scValues.nd rfl (.inl rfl) (pv 4)))
       pss_nil)
       (pss_one (ps_expr (pe_bm PySem.F.plainAttrs_list PySem.F.slot_list_append PySem.F.type_list_append mt_append (pv 1) (pa_cons (pv 5) pa_nil)))))))))
      (pss_one (ps_ret (pe_op op_cat (pv 1) (pe_lst (pa_cons (pe_cmpR op_eq (pe_ix ix_list (pv 0) pe_int (fun _ _ => rfl)) pe_int (nomark _)) pa_nil))))))), ?_⟩
    refine ⟨Nat.zero_le _, fun O nO => ?_⟩
    refine ⟨10, rfl, by decide, by decide, ?_⟩
    refine for_range (lo := 0) (n := 10) (fun k σ H' => ∃ (y2 y3 y4 y5 : Option V) (is : List Int), σ = [some (.ref r), some (.ref O), y2, y3, y4, y5] ∧ Same H H' ∧ H' O = some (.lst (is.map V.int)) ∧ is.length = k ∧ ∀ j x, is[j]? = some x → los.getD j 0 ≤ x ∧ x ≤ his.getD j 0)
      ⟨none, none, none, none, [], rfl, same_new nO, upd_same, rfl, fun j x h => nomatch h⟩ ?_ ?_
    · rintro k σ H' hk ⟨y2, y3, y4, y5, is, rfl, sm, hO, hil, hgd⟩
      have e0 : (0 : Int) + (k : Int) = (k : Int) := by omega
      rw [e0]
      obtain ⟨b1, b2, b3⟩ := los_his k hk
      refine ⟨.int (k : Int), rfl, k, rfl, hk, fun H1 t s1 ht => ?_⟩
      refine ⟨t, _, rfl, SqT.of ht, rfl, _, _, rfl, _, _, rfl, rfl, ?_⟩
      have hR1 := s1 _ _ (sm _ _ hR)
      have hO1 := s1 _ _ hO
      have sm1 := sm.trans s1
      obtain ⟨x1, e1⟩ := rat (2 * k + 1) (by omega)
      obtain ⟨x0, f0⟩ := rat (2 * k) (by omega)
      have e1' : atI (rs.map V.int) (2 * (k : Int) + 1) = some (.int x1) := by rw [show 2 * (k : Int) + 1 = ((2 * k + 1 : Nat) : Int) from by omega]; exact e1
      have f0' : atI (rs.map V.int) (2 * (k : Int)) = some (.int x0) := by rw [show 2 * (k : Int) = ((2 * k : Nat) : Int) from by omega]; exact f0
      have hm : his.getD k 0 - los.getD k 0 + 1 ≠ 0 := by omega
      refine ⟨.int (los.getD k 0), rfl, .ref r, rfl, .int (k : Int), rfl, 2, (k : Int), rfl, rfl, .inl ⟨by decide, by decide⟩, _, 1, rfl, rfl, r, _, _, .int x1, rfl, rfl, SqL.of hR1, e1', .inl ⟨x1, rfl, .int (his.getD k 0), rfl, .int (los.getD k 0), rfl, _, _, rfl, rfl, _, _, rfl, rfl, x1, _, rfl, rfl, hm, _, _, rfl, rfl, ?_⟩⟩
      have m0 : 0 ≤ x1.fmod (his.getD k 0 - los.getD k 0 + 1) := Int.fmod_nonneg_of_pos _ (by omega)
      have m1 : x1.fmod (his.getD k 0 - los.getD k 0 + 1) < his.getD k 0 - los.getD k 0 + 1 := Int.fmod_lt_of_pos _ (by omega)
      have two : ∀ (c : Int) (y : Int), (c = los.getD k 0 ∨ c = his.getD k 0) → (los.getD k 0 ≤ y ∧ y ≤ his.getD k 0) → los.getD k 0 ≤ c ∧ c ≤ his.getD k 0 := fun c y h _ => by rcases h with rfl | rfl <;> omega
      refine ⟨fun σ' H' => ∃ x : Int, σ' = [some (.ref r), some (.ref O), some (.int (k : Int)), some (.int (los.getD k 0)), some (.int (his.getD k 0)), some (.int x)] ∧ H1 = H' ∧ los.getD k 0 ≤ x ∧ x ≤ his.getD k 0, ?_, ?_⟩
      · refine ⟨.ref r, rfl, .int (k : Int), rfl, 2, (k : Int), rfl, rfl, .inl ⟨by decide, by decide⟩, r, _, _, .int x0, rfl, rfl, SqL.of hR1, f0', rfl, _, rfl, ite2 (fun _ => ?_) (fun _ => ?_)⟩
        · exact ⟨.int (los.getD k 0), rfl, _, rfl, rfl, Int.le_refl _, b1⟩
        · exact ⟨_, rfl, rfl, by omega, by omega⟩
      rintro σ' H' ⟨x, rfl, rfl, hx⟩
      refine ⟨fun σ' H' => ∃ x : Int, σ' = [some (.ref r), some (.ref O), some (.int (k : Int)), some (.int (los.getD k 0)), some (.int (his.getD k 0)), some (.int x)] ∧ H1 = H' ∧ los.getD k 0 ≤ x ∧ x ≤ his.getD k 0, ?_, ?_⟩
      · refine ⟨.ref r, rfl, .int (k : Int), rfl, 2, (k : Int), rfl, rfl, .inl ⟨by decide, by decide⟩, r, _, _, .int x0, rfl, rfl, SqL.of hR1, f0', rfl, _, rfl, ite2 (fun _ => ?_) (fun _ => ?_)⟩
        · exact ⟨.int (his.getD k 0), rfl, _, rfl, rfl, b1, Int.le_refl _⟩
        · exact ⟨x, rfl, rfl, hx⟩
      rintro σ' H' ⟨x, rfl, rfl, hx⟩
      refine ⟨.ref O, rfl, .inl ⟨rfl, _, SqL.of hO1⟩, .int x, rfl, O, _, .int x, rfl, rfl, hO1, (by rw [List.length_map]; exact small1000 (by omega)), ?_⟩
      refine ⟨_, _, _, _, is ++ [x], rfl, same_at sm1 nO, by rw [upd_same, map_snoc], by rw [List.length_append, hil]; rfl, fun j y hj => ?_⟩
      by_cases hjl : j < is.length
      · rw [List.getElem?_append_left hjl] at hj
        exact hgd j y hj
      · rw [List.getElem?_append_right (by omega)] at hj
        have hj0 : j - is.length = 0 := by
          have := (List.getElem?_eq_some_iff.mp hj).1
          simp only [List.length_singleton] at this
          omega
        rw [hj0] at hj
        cases hj
        have : j = k := by omega
        rw [this]; exact hx
    · rintro σ H' ⟨y2, y3, y4, y5, is, rfl, sm, hO, hil, hgd⟩
      obtain ⟨x20, e20⟩ := rat 20 (by omega)
      refine ⟨.ref O, rfl, .ref r, rfl, r, _, 20, .int x20, rfl, rfl, SqL.of (sm _ _ hR), e20, rfl, by show 1 ≤ sizeLine; decide, fun l nl => ?_⟩
      have s1 := same_new nl (o := .lst [.bl (decide (V.int x20 = V.int 1))])
      refine ⟨O, l, _, _, rfl, rfl, s1 _ _ hO, upd_same, (by rw [List.length_map, sizeLine_eq]; show _ + 1 ≤ _; omega), fun p np => ?_⟩
      refine q _ p (is.map V.int ++ [.bl (decide (V.int x20 = V.int 1))]) (sm.trans (s1.trans (same_new np))) (sm.free (s1.free np)) upd_same ⟨by rw [List.length_append, List.length_map, hil]; rfl, fun k v hk => ?_⟩
      by_cases hkl : k < is.length
      · rw [List.getElem?_append_left (by rw [List.length_map]; exact hkl), List.getElem?_map] at hk
        obtain ⟨x, hx, rfl⟩ := Option.map_eq_some_iff.mp hk
        obtain ⟨h1, h2⟩ := hgd k x hx
        show (decide (k < 10) && (decide (los.getD k 0 ≤ x) && decide (x ≤ his.getD k 0))) = true
        rw [decide_eq_true (by omega : k < 10), decide_eq_true h1, decide_eq_true h2]; rfl
      · rw [List.getElem?_append_right (by rw [List.length_map]; omega), List.length_map] at hk
        have hk0 : k - is.length = 0 := by
          have := (List.getElem?_eq_some_iff.mp hk).1
          simp only [List.length_singleton] at this
          omega
        rw [hk0] at hk
        cases hk
        show decide (k = 10) = true
        exact decide_eq_true (by omega)
/-! ### _law_odd -/
def spOdd : Sp := fun vs H Q _ => ∃ k j : Nat, vs = [.int (k : Int), .int (j : Int)] ∧ k ≤ 10 ∧ j < 9 ∧ ∀ H' v, Same H H' → OddV H' v → Q v H'
abbrev nOd : List Str := ["_law_k", "_law_pick", "_law_least", "_law_most"]
theorem scOdd : FnScope nOd ["_law_k", "_law_pick"] (defScope sOdd) := ⟨rfl, rfl, rfl, by decide +kernel, rfl, by decide +kernel, by decide +kernel⟩
theorem nine {Pz : V → Prop} {xs : List V} (hl : xs.length = 9) (h : ∀ x ∈ xs, Pz x) {j : Nat} (hj : j < 9) : ∃ x, atI xs (j : Int) = some x ∧ Pz x := by
  obtain ⟨x, hg⟩ : ∃ x, xs[j]? = some x := ⟨_, List.getElem?_eq_getElem (by omega)⟩
  exact ⟨x, atI_nat hg, h x (List.mem_of_getElem? hg)⟩
theorem ok_odd {f f_bounds : Addr} {fd fd_bounds : FuncData} (B : Blt mg) (F : Fun K "_law_odd" "_law_odd" sOdd f fd)
    (F_bounds : Fun K "_law_bounds" "_law_bounds" sBounds f_bounds fd_bounds) (b_bounds : Binds K fd_bounds ["_law_k"] []) (g_bounds : mg "_law_bounds" = some (.ref f_bounds)) : FnOk P w K mg base CX0 2 f fd ["_law_k", "_law_pick"] spOdd := by
  have G_bounds : FnOk P w K mg base CX0 1 f_bounds fd_bounds ["_law_k"] spBounds := ok_bounds F_bounds
  refine F.ok scOdd (fun vs H Q E h => ?_) (fun cdv A0 outer s H vs Q E hr h => ?_)
  · obtain ⟨k, j, rfl, _⟩ := h; rfl
  · obtain ⟨k, j, rfl, hk, hj, q⟩ := h
    refine ⟨_, (pss_cons (ps_if (pt_cmpR op_eq (pv 0) pe_int (nomark _))
      (pss_one (ps_ret (pe_ix ix_list (pe_lst (pa_cons pe_int (pa_cons pe_int (pa_cons pe_non (pa_cons pe_str (pa_cons (pe_tup (pa_cons pe_bl pa_nil)) (pa_cons (pe_un un_neg pe_int) (pa_cons pe_int (pa_cons pe_str (pa_cons (pe_tup pa_nil) pa_nil)))))))))) (pv 1) (fun _ _ => rfl))))
      pss_nil)
      (pss_cons (ps_asg (pe_call G_bounds hr (by rfl) g_bounds F_bounds.kp b_bounds .nil pass0 (pa_cons (pv 0) pa_nil)) (pg_tup rfl (pgs_cons (pg_name (i := 2) scOdd.nd rfl (.inl rfl)) (pgs_cons (pg_name (i := 3) scOdd.nd rfl (.inl rfl)) pgs_nil))))
      (pss_one (ps_ret (pe_ix ix_list (pe_lst (pa_cons (pe_op op_sub (pv 2) pe_int) (pa_cons (pe_op op_add (pv 3) pe_int) (pa_cons pe_bl (pa_cons pe_bl (pa_cons pe_non (pa_cons pe_str (pa_cons (pe_tup (pa_cons pe_int pa_nil)) (pa_cons (pe_un un_neg pe_int) (pa_cons (pe_op op_pow pe_int pe_int) pa_nil)))))))))) (pv 1) (fun _ _ => rfl)))))), ?_⟩
    refine ⟨.int (k : Int), rfl, rfl, _, rfl, ite2 (fun h => ?_) (fun h => ?_)⟩
    · refine ⟨by show 1 ≤ sizeLine; decide, fun t1 n1 => ⟨_, rfl, Nat.zero_le _, fun t2 n2 => ⟨by show 9 ≤ sizeLine; decide, fun l nl => ?_⟩⟩⟩
      have s1 := same_new n1 (o := .tup [.bl true])
      have s2 := same_new n2 (o := .tup [])
      have s3 := same_new nl (o := .lst [.int 0, .int 1, .non, .str (Str.ofString "True"), .ref t1, .int (-1), .int 2, .str (Str.ofString ""), .ref t2])
      have h1 := s3 _ _ (s2 _ _ (upd_same (H := H) (a := t1) (o := .tup [.bl true])))
      have h2 := s3 _ _ (upd_same (H := upd H t1 (.tup [.bl true])) (a := t2) (o := .tup []))
      obtain ⟨x, ex, hx⟩ := nine (Pz := OddV _) (xs := [.int 0, .int 1, .non, .str (Str.ofString "True"), .ref t1, .int (-1), .int 2, .str (Str.ofString ""), .ref t2]) rfl (fun x hx => by
        have hc : x = .int 0 ∨ x = .int 1 ∨ x = .non ∨ x = .str (Str.ofString "True") ∨ x = .ref t1 ∨ x = .int (-1) ∨ x = .int 2 ∨ x = .str (Str.ofString "") ∨ x = .ref t2 := by simpa using hx
        rcases hc with rfl | rfl | rfl | rfl | rfl | rfl | rfl | rfl | rfl
        · exact .inl ⟨_, rfl⟩
        · exact .inl ⟨_, rfl⟩
        · exact .inr (.inr (.inl rfl))
        · exact .inr (.inr (.inr (.inl ⟨_, rfl⟩)))
        · exact .inr (.inr (.inr (.inr ⟨_, _, rfl, h1⟩)))
        · exact .inl ⟨_, rfl⟩
        · exact .inl ⟨_, rfl⟩
        · exact .inr (.inr (.inr (.inl ⟨_, rfl⟩)))
        · exact .inr (.inr (.inr (.inr ⟨_, _, rfl, h2⟩)))) hj
      exact ⟨.int (j : Int), rfl, l, _, _, x, rfl, rfl, SqL.of upd_same, ex, q _ x (s1.trans (s2.trans s3)) hx⟩
    · have h10 : k < 10 := by
        have : k ≠ 10 := fun z => h (decide_eq_true (by rw [z]; rfl))
        omega
      refine ⟨.int (k : Int), rfl, k, rfl, h10, fun H1 t s1 ht => ⟨t, _, rfl, SqT.of ht, rfl, _, _, rfl, _, _, rfl, rfl, ?_⟩⟩
      refine ⟨.int (los.getD k 0), rfl, _, _, rfl, rfl, .int (his.getD k 0), rfl, _, _, rfl, rfl, by show 1 ≤ sizeLine; decide, fun t1 n1 => ⟨_, rfl, _, _, rfl, rfl, (by first | decide | exact ⟨by decide, by decide⟩), by show 9 ≤ sizeLine; decide, fun l nl => ?_⟩⟩
      have s2 := same_new n1 (o := .tup [.int 1])
      have s3 := same_new nl (o := .lst [.int (los.getD k 0 - 1), .int (his.getD k 0 + 1), .bl true, .bl false, .non, .str (Str.ofString "1"), .ref t1, .int (-2001), .int (10 ^ (12 : Int).toNat)])
      have h1 := s3 _ _ (upd_same (H := H1) (a := t1) (o := .tup [.int 1]))
      obtain ⟨x, ex, hx⟩ := nine (Pz := OddV _) (xs := [.int (los.getD k 0 - 1), .int (his.getD k 0 + 1), .bl true, .bl false, .non, .str (Str.ofString "1"), .ref t1, .int (-2001), .int (10 ^ (12 : Int).toNat)]) rfl (fun x hx => by
        rcases List.mem_cons.mp hx with rfl | hx
        · exact .inl ⟨_, rfl⟩
        rcases List.mem_cons.mp hx with rfl | hx
        · exact .inl ⟨_, rfl⟩
        rcases List.mem_cons.mp hx with rfl | hx
        · exact .inr (.inl ⟨_, rfl⟩)
        rcases List.mem_cons.mp hx with rfl | hx
        · exact .inr (.inl ⟨_, rfl⟩)
        rcases List.mem_cons.mp hx with rfl | hx
        · exact .inr (.inr (.inl rfl))
        rcases List.mem_cons.mp hx with rfl | hx
        · exact .inr (.inr (.inr (.inl ⟨_, rfl⟩)))
        rcases List.mem_cons.mp hx with rfl | hx
        · exact .inr (.inr (.inr (.inr ⟨_, _, rfl, h1⟩)))
        rcases List.mem_cons.mp hx with rfl | hx
        · exact .inl ⟨_, rfl⟩
        · rw [List.mem_singleton.mp hx]; exact .inl ⟨_, rfl⟩) hj
      exact ⟨.int (j : Int), rfl, l, _, _, x, rfl, rfl, SqL.of upd_same, ex, q _ x (s1.trans (s2.trans s3)) hx⟩
end
end K35

set_option maxRecDepth 100000
set_option maxHeartbeats 8000000
namespace K35
open PySem PySem.Spec PyProof.Rows L2
/-- NUMBER_RANGES -/
structure Num (K : PySem.W.Frag) (w : World) (ND : Addr) : Prop where
  kd : ∃ es n, KDict K w ND es n
  at_ : ∀ k, k < 10 → ∃ (a : Addr) (o : Obj) (its : Array Value) (n : Nat), PySem.W.nsIn K ND (names.getD k (Str.ofString "")) = some (some (.ref a)) ∧ K.lookup a = some o ∧ o.cls = .type "tuple" ∧ o.data = .seq its n ∧ its.size ≤ sizeLine ∧ Vals [V.int (los.getD k 0), .int (his.getD k 0)] its.toList
  no : PySem.W.nsIn K ND (names.getD 10 (Str.ofString "")) = some none
section
variable {P : Program} {w : World} {K : PySem.W.Frag} {mg : Str → Option Value} {base : Heap}
def spCheck (CB : Addr) : Sp := fun vs H Q E => ∃ (k : Nat) (v : V), vs = [.str (names.getD k (Str.ofString "")), v] ∧ k ≤ 10 ∧ OddV H v ∧
  (fitsB k v = false → ∀ d, H d = none → E (.ref CB) (some d) (upd H d (.xd [("field", .str (names.getD k (Str.ofString "")))]))) ∧ (fitsB k v = true → Q .non H)
abbrev pCk : List Str := ["name", "value"]
abbrev nCk : List Str := ["name", "value", "least", "greatest"]
theorem scCheck : FnScope nCk pCk (defScope sCheck) := ⟨rfl, rfl, rfl, by decide +kernel, rfl, by decide +kernel, by decide +kernel⟩
theorem ok_check {CB fB ND f : Addr} {fdB fd : FuncData} (B : Blt mg) (NT : BbE K mg CB fB fdB) (N : Num K w ND) (gN : mg "NUMBER_RANGES" = some (.ref ND)) (F : Fun K "_check_field" "_check_field" sCheck f fd) : FnOk P w K mg base (L2N.CX P w) 3 f fd pCk (spCheck CB) := by
  have GT : FnOk P w K mg base CX0 1 fB fdB ["self", "field"] (spEI K CB "field") := ok_BbI NT.F
  obtain ⟨es, n, D⟩ := N.kd
  refine RN.okXN F scCheck (fun vs H Q E h => ?_) (fun cdv A0 outer s H vs Q E hr h => ?_)
  · obtain ⟨k, v, rfl, _⟩ := h; rfl
  · obtain ⟨k, v, rfl, hk, hv, qe, q⟩ := h
    have hr2 : Room 2 _ := hr
    refine ⟨_, (pss_one (ps_if (pt_cmpR (op_notIn_kd D) (pv 0) (pe_glob (v := .ref ND) (by rfl) gN rfl) (by with_unfolding_all rfl))
      (pss_one (ps_if (pt_not (pt_val (pe_callB call_isi (by rfl) B.isi (by decide +kernel) (pa_cons (pv 1) (pa_cons (pe_bltn (v := .ty "bool") (by rfl) B.bool (by decide +kernel) rfl) pa_nil)))))
       (pss_one (L2N.ps_raise rfl (L2N.takes_of rfl rfl rfl rfl) (RN.pmk_oexN NT.oex NT.iC NT.tI GT hr2 NT.b .nil pass0 (by rfl) NT.gC (pa_cons (pv 0) pa_nil))))
       pss_nil))
      (pss_one (ps_if (PW.pt (pw_or (pt_val (pe_callB call_isi (by rfl) B.isi (by decide +kernel) (pa_cons (pv 1) (pa_cons (pe_bltn (v := .ty "bool") (by rfl) B.bool (by decide +kernel) rfl) pa_nil)))) (pw_or1 (pt_not (pt_val (pe_callB call_isi (by rfl) B.isi (by decide +kernel) (pa_cons (pv 1) (pa_cons (pe_bltn (v := .ty "int") (by rfl) B.int (by decide +kernel) rfl) pa_nil))))))))
       (pss_one (L2N.ps_raise rfl (L2N.takes_of rfl rfl rfl rfl) (RN.pmk_oexN NT.oex NT.iC NT.tI GT hr2 NT.b .nil pass0 (by rfl) NT.gC (pa_cons (pv 0) pa_nil))))
       (pss_cons (ps_asg (pe_ix ix_kdict (pe_glob (v := .ref ND) (by rfl) gN rfl) (pv 0) (fun _ _ => rfl)) (pg_tup rfl (pgs_cons (pg_name (i := 2) scCheck.nd rfl (.inl rfl)) (pgs_cons (pg_name (i := 3) scCheck.nd rfl (.inl rfl)) pgs_nil))))
        (pss_one (ps_if (pt_not (pt_chain op_le op_le (pv 2) (pv 1) (pv 3)))
        (pss_one (L2N.ps_raise rfl (L2N.takes_of rfl rfl rfl rfl) (RN.pmk_oexN NT.oex NT.iC NT.tI GT hr2 NT.b .nil pass0 (by rfl) NT.gC (pa_cons (pv 0) pa_nil))))
        pss_nil))))))), ?_⟩
    by_cases h10 : k = 10
    · subst h10
      refine ⟨.str (names.getD 10 (Str.ofString "")), rfl, _, none, rfl, rfl, N.no, _, rfl, iteT ?_⟩
      rcases hv with ⟨i, rfl⟩ | ⟨b, rfl⟩ | rfl | ⟨z, rfl⟩ | ⟨t, xs, rfl, ht⟩
      · exact ⟨.int i, rfl, .int i, .ty "bool", .type "int", .type "bool", false, rfl, .ty "bool", .base (.int i), kit_ty (by decide +kernel), _, rfl, iteT ⟨.str (names.getD 10 (Str.ofString "")), rfl, raise_err NT.oex NT.fp fun d hd => qe rfl d hd⟩⟩
      · exact ⟨.bl b, rfl, .bl b, .ty "bool", .type "bool", .type "bool", true, rfl, .ty "bool", .base (.bl b), kit_ty (by decide +kernel), _, rfl, iteF (q rfl)⟩
      · exact ⟨.non, rfl, .non, .ty "bool", .type "NoneType", .type "bool", false, rfl, .ty "bool", .base .non, kit_ty (by decide +kernel), _, rfl, iteT ⟨.str (names.getD 10 (Str.ofString "")), rfl, raise_err NT.oex NT.fp fun d hd => qe rfl d hd⟩⟩
      · exact ⟨.str z, rfl, .str z, .ty "bool", .type "str", .type "bool", false, rfl, .ty "bool", ty_txt, kit_ty (by decide +kernel), _, rfl, iteT ⟨.str (names.getD 10 (Str.ofString "")), rfl, raise_err NT.oex NT.fp fun d hd => qe rfl d hd⟩⟩
      · exact ⟨.ref t, rfl, .ref t, .ty "bool", .type "tuple", .type "bool", false, rfl, .ty "bool", ty_tup ht, kit_ty (by decide +kernel), _, rfl, iteT ⟨.str (names.getD 10 (Str.ofString "")), rfl, raise_err NT.oex NT.fp fun d hd => qe rfl d hd⟩⟩
    · have h10' : k < 10 := by omega
      obtain ⟨a, o, its, m, e1, e2, e3, e4, e5, e6⟩ := N.at_ k h10'
      refine ⟨.str (names.getD k (Str.ofString "")), rfl, _, some (.ref a), rfl, rfl, e1, _, rfl, iteF ?_⟩
      rcases hv with ⟨i, rfl⟩ | ⟨b, rfl⟩ | rfl | ⟨z, rfl⟩ | ⟨t, xs, rfl, ht⟩
      · refine ⟨.int i, rfl, .int i, .ty "bool", .type "int", .type "bool", false, rfl, .ty "bool", .base (.int i), kit_ty (by decide +kernel), _, rfl, iteF ⟨.int i, rfl, .int i, .ty "int", .type "int", .type "int", true, rfl, .ty "int", .base (.int i), kit_ty (by decide +kernel), _, rfl, iteF ?_⟩⟩
        refine ⟨.str (names.getD k (Str.ofString "")), rfl, ND, _, .ref a, rfl, rfl, ⟨es, n, _, D.at_, D.lit, e1, rfl⟩, a, _, rfl, .inr ⟨o, its, m, e2, e3, e4, e5, e6⟩, rfl, _, _, rfl, _, _, rfl, rfl, ?_⟩
        have ef : fitsB k (.int i) = (decide (los.getD k 0 ≤ i) && decide (i ≤ his.getD k 0)) := by
          show (decide (k < 10) && (decide (los.getD k 0 ≤ i) && decide (i ≤ his.getD k 0))) = _
          rw [decide_eq_true h10', Bool.true_and]
        rw [ef] at qe q
        refine ⟨.int (los.getD k 0), rfl, .int i, rfl, _, _, rfl, rfl, _, rfl, ite2 (fun h1 => ?_) (fun h1 => ?_)⟩
        · rw [h1, Bool.true_and] at qe q
          refine ⟨.int (his.getD k 0), rfl, _, _, rfl, rfl, _, rfl, ite2 (fun h2 => ?_) (fun h2 => ?_)⟩
          · exact ⟨.str (names.getD k (Str.ofString "")), rfl, raise_err NT.oex NT.fp fun d hd => qe (by simpa using h2) d hd⟩
          · exact q (by simpa using h2)
        · rw [Bool.eq_false_iff.mpr h1, Bool.false_and] at qe q
          exact ⟨_, rfl, iteT ⟨.str (names.getD k (Str.ofString "")), rfl, raise_err NT.oex NT.fp fun d hd => qe rfl d hd⟩⟩
      · have ef : fitsB k (.bl b) = false := decide_eq_false h10
        exact ⟨.bl b, rfl, .bl b, .ty "bool", .type "bool", .type "bool", true, rfl, .ty "bool", .base (.bl b), kit_ty (by decide +kernel), _, rfl, iteT ⟨.str (names.getD k (Str.ofString "")), rfl, raise_err NT.oex NT.fp fun d hd => qe ef d hd⟩⟩
      · exact ⟨.non, rfl, .non, .ty "bool", .type "NoneType", .type "bool", false, rfl, .ty "bool", .base .non, kit_ty (by decide +kernel), _, rfl, iteF ⟨.non, rfl, .non, .ty "int", .type "NoneType", .type "int", false, rfl, .ty "int", .base .non, kit_ty (by decide +kernel), _, rfl, iteT ⟨.str (names.getD k (Str.ofString "")), rfl, raise_err NT.oex NT.fp fun d hd => qe rfl d hd⟩⟩⟩
      · exact ⟨.str z, rfl, .str z, .ty "bool", .type "str", .type "bool", false, rfl, .ty "bool", ty_txt, kit_ty (by decide +kernel), _, rfl, iteF ⟨.str z, rfl, .str z, .ty "int", .type "str", .type "int", false, rfl, .ty "int", ty_txt, kit_ty (by decide +kernel), _, rfl, iteT ⟨.str (names.getD k (Str.ofString "")), rfl, raise_err NT.oex NT.fp fun d hd => qe rfl d hd⟩⟩⟩
      · exact ⟨.ref t, rfl, .ref t, .ty "bool", .type "tuple", .type "bool", false, rfl, .ty "bool", ty_tup ht, kit_ty (by decide +kernel), _, rfl, iteF ⟨.ref t, rfl, .ref t, .ty "int", .type "tuple", .type "int", false, rfl, .ty "int", ty_tup ht, kit_ty (by decide +kernel), _, rfl, iteT ⟨.str (names.getD k (Str.ofString "")), rfl, raise_err NT.oex NT.fp fun d hd => qe rfl d hd⟩⟩⟩
end
end K35

set_option maxRecDepth 100000
set_option maxHeartbeats 8000000
namespace K35
open PySem PySem.Spec PyProof.Rows L2
abbrev pBk : List Str := ["self", "room", "height", "joint", "over", "keep", "orphan", "widow", "wait", "columns", "gutter", "full"]
abbrev nBk : List Str := ["self", "room", "height", "joint", "over", "keep", "orphan", "widow", "wait", "columns", "gutter", "full", "worths", "name", "value"]
def fsB (xs : List V) (w : Addr) : List (Str × V) := names.zip xs ++ [((Str.ofString "_worths"), V.ref w)]
def BookA (C : Addr) (H : Hp) (p : Addr) (xs : List V) : Prop := ∃ dx w, H p = some (.ins C dx (fsB xs w)) ∧ H w = some (.tup xs)
theorem BookA.same {C : Addr} {H H' : Hp} {p : Addr} {xs : List V} (h : BookA C H p xs) (s : Same H H') : BookA C H' p xs := let ⟨dx, w, h1, h2⟩ := h; ⟨dx, w, s _ _ h1, s _ _ h2⟩
structure Bok (K : PySem.W.Frag) (mg : Str → Option Value) (C FT : Addr) (mc : Value) (u : Value) : Prop where
  cl : Cls K C
  n_room : NoAttr K C "room"
  n_height : NoAttr K C "height"
  n_joint : NoAttr K C "joint"
  n_over : NoAttr K C "over"
  n_keep : NoAttr K C "keep"
  n_orphan : NoAttr K C "orphan"
  n_widow : NoAttr K C "widow"
  n_wait : NoAttr K C "wait"
  n_columns : NoAttr K C "columns"
  n_gutter : NoAttr K C "gutter"
  n_full : NoAttr K C "full"
  n_worths : NoAttr K C "_worths"
  mgC : mg "Book" = some (.ref C)
  rd : ClX.CRead K C mc
  fl : ClX.CVal K C mc "FIELDS" (.ref FT) u
  ft : ∀ H, SqT K H FT (names.map V.str)
section
variable {P : Program} {w : World} {K : PySem.W.Frag} {mg : Str → Option Value} {base : Heap}
theorem scInit : FnScope nBk pBk (defScope sInit) := ⟨rfl, rfl, rfl, by decide +kernel, rfl, by decide +kernel, by decide +kernel⟩
abbrev InitD (K : PySem.W.Frag) (f : Addr) (fd : FuncData) : Prop := FunD K "__init__" "Book.__init__" (defArgs sInit) (defBody sInit) (defScope sInit) [] [("joint", .int 0), ("over", .int 100), ("keep", .int 0), ("orphan", .int 0), ("widow", .int 0), ("wait", .int 0), ("columns", .int 1), ("gutter", .int 1), ("full", .bl false)] f fd
def spInit (C CB : Addr) : Sp := fun vs H Q E => ∃ (p dx : Addr) (x0 x1 x2 x3 x4 x5 x6 x7 x8 x9 x10 : V), vs = [.ref p, x0, x1, x2, x3, x4, x5, x6, x7, x8, x9, x10] ∧ H p = some (.ins C dx []) ∧ (∀ x ∈ [x0, x1, x2, x3, x4, x5, x6, x7, x8, x9, x10], OddV H x) ∧
  (∀ k, badF 0 [x0, x1, x2, x3, x4, x5, x6, x7, x8, x9, x10] = some k → ∀ H1 d, (∀ b o, b ≠ p → H b = some o → H1 b = some o) → H1 d = none → E (.ref CB) (some d) (upd H1 d (.xd [("field", .str (names.getD k (Str.ofString "")))]))) ∧
  (badF 0 [x0, x1, x2, x3, x4, x5, x6, x7, x8, x9, x10] = none → ∀ H', (∀ b o, b ≠ p → H b = some o → H' b = some o) → BookA C H' p [x0, x1, x2, x3, x4, x5, x6, x7, x8, x9, x10] → Q .non H')
theorem ok_init {C CB FT f f_check : Addr} {mc u : Value} {fd fd_check : FuncData} (B : Blt mg) (T : Bok K mg C FT mc u) (F : InitD K f fd)
    (F_check : Fun K "_check_field" "_check_field" sCheck f_check fd_check) (b_check : Binds K fd_check pCk []) (g_check : mg "_check_field" = some (.ref f_check)) (G_check : FnOk P w K mg base (L2N.CX P w) 3 f_check fd_check pCk (spCheck CB)) : FnOk P w K mg base (L2N.CX P w) 4 f fd pBk (spInit C CB) := by
  refine F.ok scInit (fun vs H Q E h => ?_) (fun cdv A0 outer s H vs Q E hr h => ?_)
  · obtain ⟨p, dx, x0, x1, x2, x3, x4, x5, x6, x7, x8, x9, x10, rfl, _⟩ := h; rfl
  · obtain ⟨p, dx, x0, x1, x2, x3, x4, x5, x6, x7, x8, x9, x10, rfl, hp, ho, qe, q⟩ := h
    refine ⟨_, (pss_cons (ps_set (i := 12) scInit.nd rfl (.inl rfl) (pe_tup (pa_cons (pv 1) (pa_cons (pv 2) (pa_cons (pv 3) (pa_cons (pv 4) (pa_cons (pv 5) (pa_cons (pv 6) (pa_cons (pv 7) (pa_cons (pv 8) (pa_cons (pv 9) (pa_cons (pv 10) (pa_cons (pv 11) pa_nil)))))))))))))
      (pss_cons (ps_for (passes_of rfl) rfl (RZ.pi_zipA (by rfl) B.zip (pa_cons (ClX.pe_cval (pe_glob (v := .ref C) (by rfl) T.mgC rfl)) (pa_cons (pv 12) pa_nil))) (pg_tup rfl (pgs_cons (pg_name (i := 13) scInit.nd rfl (.inl rfl)) (pgs_cons (pg_name (i := 14) scInit.nd rfl (.inl rfl)) pgs_nil)))
      (pss_one (ps_expr (pe_call G_check hr (by rfl) g_check F_check.kp b_check .nil (L2N.passes_call (L2N.takes_of rfl rfl rfl rfl) (fun _ _ _ _ h => h)) (pa_cons (pv 13) (pa_cons (pv 14) pa_nil))))))
      (pss_cons (ps_fld (pv 0) (pv 1) rfl)
      (pss_cons (ps_fld (pv 0) (pv 2) rfl)
      (pss_cons (ps_fld (pv 0) (pv 3) rfl)
      (pss_cons (ps_fld (pv 0) (pv 4) rfl)
      (pss_cons (ps_fld (pv 0) (pv 5) rfl)
      (pss_cons (ps_fld (pv 0) (pv 6) rfl)
      (pss_cons (ps_fld (pv 0) (pv 7) rfl)
      (pss_cons (ps_fld (pv 0) (pv 8) rfl)
      (pss_cons (ps_fld (pv 0) (pv 9) rfl)
      (pss_cons (ps_fld (pv 0) (pv 10) rfl)
      (pss_cons (ps_fld (pv 0) (pv 11) rfl)
      (pss_one (ps_fld (pv 0) (pv 12) rfl))))))))))))))), ?_⟩
    refine ⟨x0, rfl, x1, rfl, x2, rfl, x3, rfl, x4, rfl, x5, rfl, x6, rfl, x7, rfl, x8, rfl, x9, rfl, x10, rfl, by show 11 ≤ sizeLine; decide, fun w0 nw => ?_⟩
    have s1 := same_new nw (o := .tup [x0, x1, x2, x3, x4, x5, x6, x7, x8, x9, x10])
    have hw : (upd H w0 (.tup [x0, x1, x2, x3, x4, x5, x6, x7, x8, x9, x10])) w0 = some (.tup [x0, x1, x2, x3, x4, x5, x6, x7, x8, x9, x10]) := upd_same
    generalize upd H w0 (.tup [x0, x1, x2, x3, x4, x5, x6, x7, x8, x9, x10]) = H1 at s1 hw ⊢
    refine ⟨C, mc, .ref FT, u, rfl, T.rd, T.fl, .ref w0, rfl, FT, w0, names.map V.str, [x0, x1, x2, x3, x4, x5, x6, x7, x8, x9, x10], rfl, .inr ⟨T.ft H1, SqT.of hw, ?_⟩⟩
    refine RZ.for_zipT (K := K) (a := FT) (b := w0) (xs := names.map V.str) (ys := [x0, x1, x2, x3, x4, x5, x6, x7, x8, x9, x10]) rfl (fun i σ H' => ∃ y13 y14 : Option V, σ = [some (.ref p), some x0, some x1, some x2, some x3, some x4, some x5, some x6, some x7, some x8, some x9, some x10, some (.ref w0), y13, y14] ∧ Same H1 H' ∧ badF 0 [x0, x1, x2, x3, x4, x5, x6, x7, x8, x9, x10] = badF i ([x0, x1, x2, x3, x4, x5, x6, x7, x8, x9, x10].drop i)) ⟨none, none, rfl, Same.refl _, rfl⟩ (fun i σ H' ⟨_, _, _, sm, _⟩ => ⟨T.ft H', SqT.of (sm _ _ hw)⟩) ?_ ?_
    · rintro i x y T0 σ H2 hx hy ⟨y13, y14, rfl, sm, hb⟩ nT
      rw [List.getElem?_map] at hx
      obtain ⟨nm, hn, rfl⟩ := Option.map_eq_some_iff.mp hx
      have hi := (List.getElem?_eq_some_iff.mp hn).1
      have hi' : i ≤ 10 := by have : names.length = 11 := rfl; omega
      have enm : nm = names.getD i (Str.ofString "") := by rw [List.getD_eq_getElem?_getD, hn]; rfl
      rw [badF_at hy] at hb
      have sT := same_new nT (o := .tup [.str nm, y])
      have s12 := s1.trans (sm.trans sT)
      refine ⟨T0, _, rfl, SqT.of upd_same, rfl, _, _, rfl, _, _, rfl, rfl, ?_⟩
      rw [enm] at sT s12 ⊢
      refine ⟨.str _, rfl, y, rfl, i, y, rfl, hi', (ho y (List.mem_of_getElem? hy)).same s12, fun hf d hd => ?_, fun hf => ?_⟩
      · rw [hf, if_neg Bool.false_ne_true] at hb
        exact qe i hb _ d (fun b o _ e => s12 _ _ e) hd
      · rw [hf, if_pos rfl] at hb
        exact ⟨_, _, rfl, sm.trans sT, hb⟩
    · rintro σ H2 ⟨y13, y14, rfl, sm, hb⟩
      have hb : badF 0 [x0, x1, x2, x3, x4, x5, x6, x7, x8, x9, x10] = none := hb
      have hp2 := sm _ _ (s1 _ _ hp)
      have hw2 := sm _ _ hw
      have k2 : ∀ b o, b ≠ p → H b = some o → H2 b = some o := fun b o _ e => sm _ _ (s1 _ _ e)
      refine ⟨x0, rfl, .ref p, rfl, p, C, dx, [], rfl, hp2, T.cl, T.n_room, (by show 0 < 1000; decide), ?_⟩
      have npw : w0 ≠ p := ne_of hw2 hp2 (fun z => nomatch z)
      have k2' : ∀ b o, b ≠ p → H2 b = some o → (upd H2 p (.ins C dx (putF "room" x0 []))) b = some o := fun b o h e => by rw [upd_ne h]; exact e
      have hp2 : (upd H2 p (.ins C dx (putF "room" x0 []))) p = some (.ins C dx [("room", x0)]) := upd_same
      generalize upd H2 p (.ins C dx (putF "room" x0 [])) = J0 at k2' hp2 ⊢
      have hw2 := k2' _ _ npw hw2
      have k2 := fun b o (hne : b ≠ p) (e : H b = some o) => k2' b o hne (k2 b o hne e)
      refine ⟨x1, rfl, .ref p, rfl, p, C, dx, [("room", x0)], rfl, hp2, T.cl, T.n_height, (by show 1 < 1000; decide), ?_⟩
      have npw : w0 ≠ p := ne_of hw2 hp2 (fun z => nomatch z)
      have k2' : ∀ b o, b ≠ p → J0 b = some o → (upd J0 p (.ins C dx (putF "height" x1 [("room", x0)]))) b = some o := fun b o h e => by rw [upd_ne h]; exact e
      have hp2 : (upd J0 p (.ins C dx (putF "height" x1 [("room", x0)]))) p = some (.ins C dx [("room", x0), ("height", x1)]) := upd_same
      generalize upd J0 p (.ins C dx (putF "height" x1 [("room", x0)])) = J1 at k2' hp2 ⊢
      have hw2 := k2' _ _ npw hw2
      have k2 := fun b o (hne : b ≠ p) (e : H b = some o) => k2' b o hne (k2 b o hne e)
      refine ⟨x2, rfl, .ref p, rfl, p, C, dx, [("room", x0), ("height", x1)], rfl, hp2, T.cl, T.n_joint, (by show 2 < 1000; decide), ?_⟩
      have npw : w0 ≠ p := ne_of hw2 hp2 (fun z => nomatch z)
      have k2' : ∀ b o, b ≠ p → J1 b = some o → (upd J1 p (.ins C dx (putF "joint" x2 [("room", x0), ("height", x1)]))) b = some o := fun b o h e => by rw [upd_ne h]; exact e
      have hp2 : (upd J1 p (.ins C dx (putF "joint" x2 [("room", x0), ("height", x1)]))) p = some (.ins C dx [("room", x0), ("height", x1), ("joint", x2)]) := upd_same
      generalize upd J1 p (.ins C dx (putF "joint" x2 [("room", x0), ("height", x1)])) = J2 at k2' hp2 ⊢
      have hw2 := k2' _ _ npw hw2
      have k2 := fun b o (hne : b ≠ p) (e : H b = some o) => k2' b o hne (k2 b o hne e)
      refine ⟨x3, rfl, .ref p, rfl, p, C, dx, [("room", x0), ("height", x1), ("joint", x2)], rfl, hp2, T.cl, T.n_over, (by show 3 < 1000; decide), ?_⟩
      have npw : w0 ≠ p := ne_of hw2 hp2 (fun z => nomatch z)
      have k2' : ∀ b o, b ≠ p → J2 b = some o → (upd J2 p (.ins C dx (putF "over" x3 [("room", x0), ("height", x1), ("joint", x2)]))) b = some o := fun b o h e => by rw [upd_ne h]; exact e
      have hp2 : (upd J2 p (.ins C dx (putF "over" x3 [("room", x0), ("height", x1), ("joint", x2)]))) p = some (.ins C dx [("room", x0), ("height", x1), ("joint", x2), ("over", x3)]) := upd_same
      generalize upd J2 p (.ins C dx (putF "over" x3 [("room", x0), ("height", x1), ("joint", x2)])) = J3 at k2' hp2 ⊢
      have hw2 := k2' _ _ npw hw2
      have k2 := fun b o (hne : b ≠ p) (e : H b = some o) => k2' b o hne (k2 b o hne e)
      refine ⟨x4, rfl, .ref p, rfl, p, C, dx, [("room", x0), ("height", x1), ("joint", x2), ("over", x3)], rfl, hp2, T.cl, T.n_keep, (by show 4 < 1000; decide), ?_⟩
      have npw : w0 ≠ p := ne_of hw2 hp2 (fun z => nomatch z)
      have k2' : ∀ b o, b ≠ p → J3 b = some o → (upd J3 p (.ins C dx (putF "keep" x4 [("room", x0), ("height", x1), ("joint", x2), ("over", x3)]))) b = some o := fun b o h e => by rw [upd_ne h]; exact e
      have hp2 : (upd J3 p (.ins C dx (putF "keep" x4 [("room", x0), ("height", x1), ("joint", x2), ("over", x3)]))) p = some (.ins C dx [("room", x0), ("height", x1), ("joint", x2), ("over", x3), ("keep", x4)]) := upd_same
      generalize upd J3 p (.ins C dx (putF "keep" x4 [("room", x0), ("height", x1), ("joint", x2), ("over", x3)])) = J4 at k2' hp2 ⊢
      have hw2 := k2' _ _ npw hw2
      have k2 := fun b o (hne : b ≠ p) (e : H b = some o) => k2' b o hne (k2 b o hne e)
      refine ⟨x5, rfl, .ref p, rfl, p, C, dx, [("room", x0), ("height", x1), ("joint", x2), ("over", x3), ("keep", x4)], rfl, hp2, T.cl, T.n_orphan, (by show 5 < 1000; decide), ?_⟩
      have npw : w0 ≠ p := ne_of hw2 hp2 (fun z => nomatch z)
      have k2' : ∀ b o, b ≠ p → J4 b = some o → (upd J4 p (.ins C dx (putF "orphan" x5 [("room", x0), ("height", x1), ("joint", x2), ("over", x3), ("keep", x4)]))) b = some o := fun b o h e => by rw [upd_ne h]; exact e
      have hp2 : (upd J4 p (.ins C dx (putF "orphan" x5 [("room", x0), ("height", x1), ("joint", x2), ("over", x3), ("keep", x4)]))) p = some (.ins C dx [("room", x0), ("height", x1), ("joint", x2), ("over", x3), ("keep", x4), ("orphan", x5)]) := upd_same
      generalize upd J4 p (.ins C dx (putF "orphan" x5 [("room", x0), ("height", x1), ("joint", x2), ("over", x3), ("keep", x4)])) = J5 at k2' hp2 ⊢
      have hw2 := k2' _ _ npw hw2
      have k2 := fun b o (hne : b ≠ p) (e : H b = some o) => k2' b o hne (k2 b o hne e)
      refine ⟨x6, rfl, .ref p, rfl, p, C, dx, [("room", x0), ("height", x1), ("joint", x2), ("over", x3), ("keep", x4), ("orphan", x5)], rfl, hp2, T.cl, T.n_widow, (by show 6 < 1000; decide), ?_⟩
      have npw : w0 ≠ p := ne_of hw2 hp2 (fun z => nomatch z)
      have k2' : ∀ b o, b ≠ p → J5 b = some o → (upd J5 p (.ins C dx (putF "widow" x6 [("room", x0), ("height", x1), ("joint", x2), ("over", x3), ("keep", x4), ("orphan", x5)]))) b = some o := fun b o h e => by rw [upd_ne h]; exact e
      have hp2 : (upd J5 p (.ins C dx (putF "widow" x6 [("room", x0), ("height", x1), ("joint", x2), ("over", x3), ("keep", x4), ("orphan", x5)]))) p = some (.ins C dx [("room", x0), ("height", x1), ("joint", x2), ("over", x3), ("keep", x4), ("orphan", x5), ("widow", x6)]) := upd_same
      generalize upd J5 p (.ins C dx (putF "widow" x6 [("room", x0), ("height", x1), ("joint", x2), ("over", x3), ("keep", x4), ("orphan", x5)])) = J6 at k2' hp2 ⊢
      have hw2 := k2' _ _ npw hw2
      have k2 := fun b o (hne : b ≠ p) (e : H b = some o) => k2' b o hne (k2 b o hne e)
      refine ⟨x7, rfl, .ref p, rfl, p, C, dx, [("room", x0), ("height", x1), ("joint", x2), ("over", x3), ("keep", x4), ("orphan", x5), ("widow", x6)], rfl, hp2, T.cl, T.n_wait, (by show 7 < 1000; decide), ?_⟩
      have npw : w0 ≠ p := ne_of hw2 hp2 (fun z => nomatch z)
      have k2' : ∀ b o, b ≠ p → J6 b = some o → (upd J6 p (.ins C dx (putF "wait" x7 [("room", x0), ("height", x1), ("joint", x2), ("over", x3), ("keep", x4), ("orphan", x5), ("widow", x6)]))) b = some o := fun b o h e => by rw [upd_ne h]; exact e
      have hp2 : (upd J6 p (.ins C dx (putF "wait" x7 [("room", x0), ("height", x1), ("joint", x2), ("over", x3), ("keep", x4), ("orphan", x5), ("widow", x6)]))) p = some (.ins C dx [("room", x0), ("height", x1), ("joint", x2), ("over", x3), ("keep", x4), ("orphan", x5), ("widow", x6), ("wait", x7)]) := upd_same
      generalize upd J6 p (.ins C dx (putF "wait" x7 [("room", x0), ("height", x1), ("joint", x2), ("over", x3), ("keep", x4), ("orphan", x5), ("widow", x6)])) = J7 at k2' hp2 ⊢
      have hw2 := k2' _ _ npw hw2
      have k2 := fun b o (hne : b ≠ p) (e : H b = some o) => k2' b o hne (k2 b o hne e)
      refine ⟨x8, rfl, .ref p, rfl, p, C, dx, [("room", x0), ("height", x1), ("joint", x2), ("over", x3), ("keep", x4), ("orphan", x5), ("widow", x6), ("wait", x7)], rfl, hp2, T.cl, T.n_columns, (by show 8 < 1000; decide), ?_⟩
      have npw : w0 ≠ p := ne_of hw2 hp2 (fun z => nomatch z)
      have k2' : ∀ b o, b ≠ p → J7 b = some o → (upd J7 p (.ins C dx (putF "columns" x8 [("room", x0), ("height", x1), ("joint", x2), ("over", x3), ("keep", x4), ("orphan", x5), ("widow", x6), ("wait", x7)]))) b = some o := fun b o h e => by rw [upd_ne h]; exact e
      have hp2 : (upd J7 p (.ins C dx (putF "columns" x8 [("room", x0), ("height", x1), ("joint", x2), ("over", x3), ("keep", x4), ("orphan", x5), ("widow", x6), ("wait", x7)]))) p = some (.ins C dx [("room", x0), ("height", x1), ("joint", x2), ("over", x3), ("keep", x4), ("orphan", x5), ("widow", x6), ("wait", x7), ("columns", x8)]) := upd_same
      generalize upd J7 p (.ins C dx (putF "columns" x8 [("room", x0), ("height", x1), ("joint", x2), ("over", x3), ("keep", x4), ("orphan", x5), ("widow", x6), ("wait", x7)])) = J8 at k2' hp2 ⊢
      have hw2 := k2' _ _ npw hw2
      have k2 := fun b o (hne : b ≠ p) (e : H b = some o) => k2' b o hne (k2 b o hne e)
      refine ⟨x9, rfl, .ref p, rfl, p, C, dx, [("room", x0), ("height", x1), ("joint", x2), ("over", x3), ("keep", x4), ("orphan", x5), ("widow", x6), ("wait", x7), ("columns", x8)], rfl, hp2, T.cl, T.n_gutter, (by show 9 < 1000; decide), ?_⟩
      have npw : w0 ≠ p := ne_of hw2 hp2 (fun z => nomatch z)
      have k2' : ∀ b o, b ≠ p → J8 b = some o → (upd J8 p (.ins C dx (putF "gutter" x9 [("room", x0), ("height", x1), ("joint", x2), ("over", x3), ("keep", x4), ("orphan", x5), ("widow", x6), ("wait", x7), ("columns", x8)]))) b = some o := fun b o h e => by rw [upd_ne h]; exact e
      have hp2 : (upd J8 p (.ins C dx (putF "gutter" x9 [("room", x0), ("height", x1), ("joint", x2), ("over", x3), ("keep", x4), ("orphan", x5), ("widow", x6), ("wait", x7), ("columns", x8)]))) p = some (.ins C dx [("room", x0), ("height", x1), ("joint", x2), ("over", x3), ("keep", x4), ("orphan", x5), ("widow", x6), ("wait", x7), ("columns", x8), ("gutter", x9)]) := upd_same
      generalize upd J8 p (.ins C dx (putF "gutter" x9 [("room", x0), ("height", x1), ("joint", x2), ("over", x3), ("keep", x4), ("orphan", x5), ("widow", x6), ("wait", x7), ("columns", x8)])) = J9 at k2' hp2 ⊢
      have hw2 := k2' _ _ npw hw2
      have k2 := fun b o (hne : b ≠ p) (e : H b = some o) => k2' b o hne (k2 b o hne e)
      refine ⟨x10, rfl, .ref p, rfl, p, C, dx, [("room", x0), ("height", x1), ("joint", x2), ("over", x3), ("keep", x4), ("orphan", x5), ("widow", x6), ("wait", x7), ("columns", x8), ("gutter", x9)], rfl, hp2, T.cl, T.n_full, (by show 10 < 1000; decide), ?_⟩
      have npw : w0 ≠ p := ne_of hw2 hp2 (fun z => nomatch z)
      have k2' : ∀ b o, b ≠ p → J9 b = some o → (upd J9 p (.ins C dx (putF "full" x10 [("room", x0), ("height", x1), ("joint", x2), ("over", x3), ("keep", x4), ("orphan", x5), ("widow", x6), ("wait", x7), ("columns", x8), ("gutter", x9)]))) b = some o := fun b o h e => by rw [upd_ne h]; exact e
      have hp2 : (upd J9 p (.ins C dx (putF "full" x10 [("room", x0), ("height", x1), ("joint", x2), ("over", x3), ("keep", x4), ("orphan", x5), ("widow", x6), ("wait", x7), ("columns", x8), ("gutter", x9)]))) p = some (.ins C dx [("room", x0), ("height", x1), ("joint", x2), ("over", x3), ("keep", x4), ("orphan", x5), ("widow", x6), ("wait", x7), ("columns", x8), ("gutter", x9), ("full", x10)]) := upd_same
      generalize upd J9 p (.ins C dx (putF "full" x10 [("room", x0), ("height", x1), ("joint", x2), ("over", x3), ("keep", x4), ("orphan", x5), ("widow", x6), ("wait", x7), ("columns", x8), ("gutter", x9)])) = J10 at k2' hp2 ⊢
      have hw2 := k2' _ _ npw hw2
      have k2 := fun b o (hne : b ≠ p) (e : H b = some o) => k2' b o hne (k2 b o hne e)
      refine ⟨(.ref w0), rfl, .ref p, rfl, p, C, dx, [("room", x0), ("height", x1), ("joint", x2), ("over", x3), ("keep", x4), ("orphan", x5), ("widow", x6), ("wait", x7), ("columns", x8), ("gutter", x9), ("full", x10)], rfl, hp2, T.cl, T.n_worths, (by show 11 < 1000; decide), ?_⟩
      have npw : w0 ≠ p := ne_of hw2 hp2 (fun z => nomatch z)
      have k2' : ∀ b o, b ≠ p → J10 b = some o → (upd J10 p (.ins C dx (putF "_worths" (.ref w0) [("room", x0), ("height", x1), ("joint", x2), ("over", x3), ("keep", x4), ("orphan", x5), ("widow", x6), ("wait", x7), ("columns", x8), ("gutter", x9), ("full", x10)]))) b = some o := fun b o h e => by rw [upd_ne h]; exact e
      have hp2 : (upd J10 p (.ins C dx (putF "_worths" (.ref w0) [("room", x0), ("height", x1), ("joint", x2), ("over", x3), ("keep", x4), ("orphan", x5), ("widow", x6), ("wait", x7), ("columns", x8), ("gutter", x9), ("full", x10)]))) p = some (.ins C dx [("room", x0), ("height", x1), ("joint", x2), ("over", x3), ("keep", x4), ("orphan", x5), ("widow", x6), ("wait", x7), ("columns", x8), ("gutter", x9), ("full", x10), ("_worths", (.ref w0))]) := upd_same
      generalize upd J10 p (.ins C dx (putF "_worths" (.ref w0) [("room", x0), ("height", x1), ("joint", x2), ("over", x3), ("keep", x4), ("orphan", x5), ("widow", x6), ("wait", x7), ("columns", x8), ("gutter", x9), ("full", x10)])) = J11 at k2' hp2 ⊢
      have hw2 := k2' _ _ npw hw2
      have k2 := fun b o (hne : b ≠ p) (e : H b = some o) => k2' b o hne (k2 b o hne e)
      exact q hb _ k2 ⟨dx, w0, hp2, hw2⟩
end
end K35

set_option maxRecDepth 100000
set_option maxHeartbeats 8000000
namespace K35
open PySem PySem.Spec PyProof.Rows L2
theorem b_book {K : PySem.W.Frag} {f : Addr} {fd : FuncData} (F : InitD K f fd) : KBn K fd pBk 3 ["joint", "over", "keep", "orphan", "widow", "wait", "columns", "gutter", "full"] (fun us ws => us ++ ws) (fun vs zs => vs ++ zs) := by
  obtain ⟨mv, h⟩ := F.kbinds0 (ps := pBk) 3 ["joint", "over", "keep", "orphan", "widow", "wait", "columns", "gutter", "full"] [] (fun us mv ws => us ++ ws) (fun z => nomatch z) (fun q h => nomatch h) (fun r1 r2 r3 => r1.append r3) fun D doc pm an cdv ct us mv ws e1 e2 e3 => match us, mv, ws, e1, e2, e3 with
    | [_, _, _], [], [_, _, _, _, _, _, _, _, _], _, _, _ => by with_unfolding_all rfl
  exact h
/-- Book(room, height) -/
theorem b_some {K : PySem.W.Frag} {f : Addr} {fd : FuncData} (F : InitD K f fd) : ∃ mv : List Value, KBn K fd pBk 3 [] (fun us ws => us ++ mv) (fun vs zs => vs ++ [.int 0, .int 100, .int 0, .int 0, .int 0, .int 0, .int 1, .int 1, .bl false]) := by
  obtain ⟨mv, h⟩ := F.kbinds0 (ps := pBk) 3 [] [("joint", .int 0), ("over", .int 100), ("keep", .int 0), ("orphan", .int 0), ("widow", .int 0), ("wait", .int 0), ("columns", .int 1), ("gutter", .int 1), ("full", .bl false)] (fun us mv ws => us ++ mv) (fun z => nomatch z) (fun q h => h) (fun r1 r2 r3 => r1.append r2) fun D doc pm an cdv ct us mv ws e1 e2 e3 => match us, mv, ws, e1, e2, e3 with
    | [_, _, _], [_, _, _, _, _, _, _, _, _], [], _, _, _ => ⟨_, _, _, _, _, _, rfl, rfl, ⟨_, _, _, _, _, _, rfl, rfl, ⟨_, _, _, _, _, _, rfl, rfl, ⟨_, _, _, _, _, _, rfl, rfl, ⟨_, _, _, _, _, _, rfl, rfl, ⟨_, _, _, _, _, _, rfl, rfl, ⟨_, _, _, _, _, _, rfl, rfl, ⟨_, _, _, _, _, _, rfl, rfl, ⟨_, _, _, _, _, _, rfl, rfl, rfl⟩⟩⟩⟩⟩⟩⟩⟩⟩
  exact ⟨mv, h⟩
/-- Book(height = .., room = .., keep = .., full = .., gutter = ..) -/
theorem b_five {K : PySem.W.Frag} {f : Addr} {fd : FuncData} (F : InitD K f fd) : ∃ mv : List Value, KBn K fd pBk 1 ["height", "room", "keep", "full", "gutter"] (fun us ws => us ++ (ws.drop 1).take 1 ++ ws.take 1 ++ mv.take 2 ++ (ws.drop 2).take 1 ++ mv.drop 2 ++ ws.drop 4 ++ (ws.drop 3).take 1) (fun vs zs => vs ++ (zs.drop 1).take 1 ++ zs.take 1 ++ [.int 0, .int 100] ++ (zs.drop 2).take 1 ++ [.int 0, .int 0, .int 0, .int 1] ++ zs.drop 4 ++ (zs.drop 3).take 1) := by
  obtain ⟨mv, h⟩ := F.kbinds0 (ps := pBk) 1 ["height", "room", "keep", "full", "gutter"] [("joint", .int 0), ("over", .int 100), ("orphan", .int 0), ("widow", .int 0), ("wait", .int 0), ("columns", .int 1)] (fun us mv ws => us ++ (ws.drop 1).take 1 ++ ws.take 1 ++ mv.take 2 ++ (ws.drop 2).take 1 ++ mv.drop 2 ++ ws.drop 4 ++ (ws.drop 3).take 1) (fun z => nomatch z) (fun q h => by
      simp only [List.mem_cons, List.not_mem_nil, or_false] at h ⊢
      rcases h with h | h | h | h | h | h <;> simp [h])
    (fun r1 r2 r3 => ((((((r1.append ((r3.drop 1).take 1)).append (r3.take 1)).append (r2.take 2)).append ((r3.drop 2).take 1)).append (r2.drop 2)).append (r3.drop 4)).append ((r3.drop 3).take 1)) fun D doc pm an cdv ct us mv ws e1 e2 e3 => match us, mv, ws, e1, e2, e3 with
    | [_], [_, _, _, _, _, _], [_, _, _, _, _], _, _, _ => ⟨_, _, _, _, _, _, rfl, rfl, ⟨_, _, _, _, _, _, rfl, rfl, ⟨_, _, _, _, _, _, rfl, rfl, ⟨_, _, _, _, _, _, rfl, rfl, ⟨_, _, _, _, _, _, rfl, rfl, ⟨_, _, _, _, _, _, rfl, rfl, rfl⟩⟩⟩⟩⟩⟩
  exact ⟨mv, h⟩
theorem made_up {H : Hp} {x dx C : Addr} (nx : H x = none) (ndx : H dx = none) : Same H (upd (upd H dx (.own x)) x (.ins C dx [])) := fun b o hb => by
  rw [upd_ne (fun e => by subst e; rw [nx] at hb; cases hb), upd_ne (fun e => by subst e; rw [ndx] at hb; cases hb)]; exact hb
theorem made_same {H H' : Hp} {x dx C : Addr} (nx : H x = none) (ndx : H dx = none) (hk : ∀ b o, b ≠ x → (upd (upd H dx (.own x)) x (.ins C dx [])) b = some o → H' b = some o) : Same H H' := fun b o hb =>
  hk b o (fun e => by subst e; rw [nx] at hb; cases hb) (made_up nx ndx b o hb)
section
variable {P : Program} {w : World} {K : PySem.W.Frag} {mg : Str → Option Value} {base : Heap}
/-! ### _law_book -/
def spLB (C CB : Addr) : Sp := fun vs H Q E => ∃ (a : Addr) (xs : List V), vs = [.ref a] ∧ H a = some (.lst xs) ∧ xs.length = 11 ∧ (∀ x ∈ xs, OddV H x) ∧
  (∀ k, badF 0 xs = some k → ∀ H1 d, Same H H1 → H1 d = none → E (.ref CB) (some d) (upd H1 d (.xd [("field", .str (names.getD k (Str.ofString "")))]))) ∧
  (badF 0 xs = none → ∀ H' r, Same H H' → H r = none → BookA C H' r xs → Q (.ref r) H')
theorem scBook : FnScope ["_law_v"] ["_law_v"] (defScope sBook) := ⟨rfl, rfl, rfl, by decide +kernel, rfl, by decide +kernel, by decide +kernel⟩
theorem ok_book {C CB FT f_init f : Addr} {mc u : Value} {fd_init fd : FuncData} (T : Bok K mg C FT mc u) (M : Mk K C f_init) (FI : InitD K f_init fd_init) (F : Fun K "_law_book" "_law_book" sBook f fd)
    (G_init : FnOk P w K mg base (L2N.CX P w) 4 f_init fd_init pBk (spInit C CB)) : FnOk P w K mg base (L2N.CX P w) 6 f fd ["_law_v"] (spLB C CB) := by
  have KB := b_book FI
  refine RN.okXN F scBook (fun vs H Q E h => ?_) (fun cdv A0 outer s H vs Q E hr h => ?_)
  · obtain ⟨a, xs, rfl, _⟩ := h; rfl
  · obtain ⟨a, xs, rfl, ha, hl, ho, qe, q⟩ := h
    refine ⟨_, pss_one (ps_ret (pe_makeK M G_init hr (by rfl) T.mgC KB (L2N.passes_call (L2N.takes_of rfl rfl rfl rfl) (fun _ _ _ _ h => h)) (pa_cons (pe_ix ix_list (pv 0) pe_int (fun _ _ => rfl)) (pa_cons (pe_ix ix_list (pv 0) pe_int (fun _ _ => rfl)) pa_nil)) (pk_cons (pe_ix ix_list (pv 0) pe_int (fun _ _ => rfl)) (pk_cons (pe_ix ix_list (pv 0) pe_int (fun _ _ => rfl)) (pk_cons (pe_ix ix_list (pv 0) pe_int (fun _ _ => rfl)) (pk_cons (pe_ix ix_list (pv 0) pe_int (fun _ _ => rfl)) (pk_cons (pe_ix ix_list (pv 0) pe_int (fun _ _ => rfl)) (pk_cons (pe_ix ix_list (pv 0) pe_int (fun _ _ => rfl)) (pk_cons (pe_ix ix_list (pv 0) pe_int (fun _ _ => rfl)) (pk_cons (pe_ix ix_list (pv 0) pe_int (fun _ _ => rfl)) (pk_cons (pe_ix ix_list (pv 0) pe_int (fun _ _ => rfl)) pk_nil))))))))))), ?_⟩
    match xs, hl with
    | [x0, x1, x2, x3, x4, x5, x6, x7, x8, x9, x10], _ =>
    refine ⟨.ref a, rfl, a, _, 0, x0, rfl, rfl, SqL.of ha, rfl, .ref a, rfl, a, _, 1, x1, rfl, rfl, SqL.of ha, rfl, .ref a, rfl, a, _, 2, x2, rfl, rfl, SqL.of ha, rfl, .ref a, rfl, a, _, 3, x3, rfl, rfl, SqL.of ha, rfl, .ref a, rfl, a, _, 4, x4, rfl, rfl, SqL.of ha, rfl, .ref a, rfl, a, _, 5, x5, rfl, rfl, SqL.of ha, rfl, .ref a, rfl, a, _, 6, x6, rfl, rfl, SqL.of ha, rfl, .ref a, rfl, a, _, 7, x7, rfl, rfl, SqL.of ha, rfl, .ref a, rfl, a, _, 8, x8, rfl, rfl, SqL.of ha, rfl, .ref a, rfl, a, _, 9, x9, rfl, rfl, SqL.of ha, rfl, .ref a, rfl, a, _, 10, x10, rfl, rfl, SqL.of ha, rfl, rfl, rfl, fun p dx np ndx hne => ?_⟩
    have sM : Same H (upd (upd H dx (.own p)) p (.ins C dx [])) := made_up np ndx
    exact ⟨p, dx, x0, x1, x2, x3, x4, x5, x6, x7, x8, x9, x10, rfl, upd_same, fun x hx => (ho x hx).same sM, fun k hb H1 d hk hd => qe k hb H1 d (made_same np ndx hk) hd, fun hb H1 hk hB => ⟨rfl, q hb H1 p (made_same np ndx hk) np hB⟩⟩
end
end K35

set_option maxRecDepth 100000
set_option maxHeartbeats 4000000
namespace R7
open PySem PySem.Spec PyProof.Rows L2
/-! ### str.__eq__ asked of an object -/
theorem str_eq_ref (z : Str) (t : Tok) (a : Addr) (o : Obj) (hd : o.data = .plain) :
    Meets (Builtin.«str.__eq__» ⟨[.str z t, .ref a], []⟩) (fun _ R s => s.heap.get? a = some o ∧ R (.ok (.ret .notImplemented)) s) :=
  .of_wp fun prog w A R s h => by
    obtain ⟨hp, g, d, tk, os⟩ := s
    obtain ⟨hl, h⟩ := h
    wp_walk using wpAny_load hl
    rw [hd]
    exact wpAny_pure (wpAny_bind (wpAny_rule (wpAny_pure ⟨_, rfl, h⟩)))
section
variable {prog : Program} {w : World} {A : Around} {E : Value → Shared → Prop} {s : Shared} {K : PySem.W.Frag} {x C f : Addr} {ox : Obj} {od : Option Obj}
theorem sub_str : PySem.W.subIn K (.type "str") (.ref C) = some false := by
  have e : fastBuiltinMro "str" = some [.type "str", .type "object"] := by decide +kernel
  show (fastBuiltinMro "str").map (·.contains (.ref C)) = some false
  rw [e]
  first
    | rfl
    | simp
/-- an instance compared with a text, its own == says NotImplemented -/
theorem rc_ni {z : Str} {t : Tok} {Q : Value → Shared → Prop} (hu : A.units < cLine) (X : K.In s.heap) (I : PySem.W.InstAt s.heap x ox C od) (hs : PySem.W.findIn K (.ref C) "__eq__" = some (some (.ref f))) (hf : PySem.W.isFn K (.ref f) = true)
    (hcall : wpAny (model prog w) A (call (.ref f) [.ref x, .str z t]) (fun v s' => v = .notImplemented ∧ (∃ o, s'.heap.get? x = some o ∧ o.data = .plain) ∧ Q (.bool false) s') E s) :
    wpAny (model prog w) A (richCompare .Eq (.ref x) (.str z t)) Q E s := by
  have one : wpAny (model prog w) A (tryCompare (.ref x) "__eq__" (.str z t)) (fun r s' => r = none ∧ (∃ o, s'.heap.get? x = some o ∧ o.data = .plain) ∧ Q (.bool false) s') E s := by
    unfold tryCompare
    refine wpAny_bind (PySem.W.ifBound_K X I hs hf (wpAny_mono hcall (fun v s' hv => ?_) fun _ _ e => e))
    obtain ⟨rfl, h1, h2⟩ := hv
    exact wpAny_pure ⟨rfl, h1, h2⟩
  have two : ∀ s', (∃ o, s'.heap.get? x = some o ∧ o.data = .plain) → Q (.bool false) s' → wpAny (model prog w) A (tryCompare (.str z t) "__eq__" (.ref x)) (fun r s2 => r = none ∧ Q (.bool false) s2) E s' := fun s' ⟨o, h1, h2⟩ hq =>
    wpAny_tryCompare_declines (typeIs_str s' z t) F.slot_str_eq (call_meets F.slot_str_eq (typeIs_str s' z t) F.entry_str_eq (F.args_str_eq_2 _ _) (str_eq_ref z t x o h2) ⟨h1, rfl, rfl, hq⟩)
  simp only [richCompare, cmpInfo_Eq, oneThing_ref]
  refine wpAny_holding (wpAny_bind (wpAny_cRoomFor hu ?_))
  refine wpAny_bind (I.type.here ?_)
  refine wpAny_bind (wpAny_typeOf (typeIs_str s z t) ?_)
  split
  · refine wpAny_bind ((PySem.W.looks_subIn X sub_str).here ?_)
    simp only [Bool.false_eq_true, if_false, Bool.not_false, if_true]
    refine wpAny_bind (m := tryCompare (.ref x) _ (.str z t)) (wpAny_mono one (fun r s1 y => ?_) fun _ _ e => e)
    obtain ⟨y1, y2, y3⟩ := y
    subst y1
    refine wpAny_bind (m := tryCompare (.str z t) _ (.ref x)) (wpAny_mono (two s1 y2 y3) (fun r s2 y => ?_) fun _ _ e => e)
    obtain ⟨y1, y4⟩ := y
    subst y1
    exact wpAny_bind (wpAny_rule (wpAny_bind (wpAny_of_eq (rfl : isSame (.ref x) (.str z t) = pure false) (wpAny_pure y4))))
  · rename_i q
    exact absurd (by simp) q
end
/-! ### a def that answers NotImplemented -/
/-- what it promises: R says of arguments, the heap and a wish for the heap behind -/
def NiOk (P : Program) (w : World) (K : PySem.W.Frag) (mg : Str → Option Value) (base : Heap) (k : Nat) (f : Addr) (R : List V → Hp → (Hp → Prop) → Prop) : Prop :=
  ∀ (A : Around) (outer : List Env) (s : Shared) (H : Hp) (us : List Value) (vs : List V) (Rh : Hp → Prop), Room k A → Env0 P w K mg base A outer s H → Vals vs us → R vs H Rh →
    codeAny (model P w) A (.call (.ref f) ⟨us, []⟩) (fun r s' => match r with | .ok (.ret u) => u = .notImplemented ∧ CE outer P w H s (fun _ H' => Rh H') .none s' | .ok _ => False | .error _ => False) s
theorem ni_of {P : Program} {w : World} {K : PySem.W.Frag} {mg : Str → Option Value} {base : Heap} {k : Nat} {f : Addr} {name qual : Str} {params : Arguments} {body rest : List Stmt} {scope : Scope} {dV kV doc pm cdv ct oc : Value} {an od : Option Addr}
    {osl : Array (Option Value)} {N ps : List Str} {c : Expr} {p1 p2 p3 : Pos} {R : List V → Hp → (Hp → Prop) → Prop} (lk : K.lookup f = some ⟨oc, od, .func (PySem.W.fnOf name qual params body scope dV kV doc pm an cdv ct), osl⟩) (hcd : PySem.W.codeIn K cdv qual = true) (S : FnScope N ps scope)
    (hbs : body = .If c [.Return (some (.Name "NotImplemented" p1)) p2] [] p3 :: rest) (hb : Binds K (PySem.W.fnOf name qual params body scope dV kV doc pm an cdv ct) ps []) (len : ∀ vs H Rh, R vs H Rh → vs.length = ps.length) (hm : mg "NotImplemented" = none)
    (hgl : ∀ (A : Around) (outer : List Env) (s : Shared) (H : Hp), Gl (cxOf CX0 P w K mg base N qual scope f cdv A outer s H E0).nox "NotImplemented")
    (hc : ∀ (A : Around) (outer : List Env) (s : Shared) (H : Hp) (vs : List V) (Rh : Hp → Prop), Room k (A.deeper (envOfC qual scope s.heap.objs.size f cdv)) → R vs H Rh → ∃ tt, PT (cxOf CX0 P w K mg base N qual scope f cdv A outer s H E0).nox c tt ∧ tt (start N vs) H (fun b H' => b = true ∧ Rh H')) :
    NiOk P w K mg base (k + 1) f R := by
  intro A outer s H us vs Rh hr e0 r hR
  have hl := len _ _ _ hR
  have KX : K.In s.heap := e0.mod.kin.keeps fun b o e => (e0.bs b o e).1
  have lim : s.heap.NoLimit := e0.mod.nolimit.keeps fun b o e => (e0.bs b o e).1
  have hul : us.length = ps.length := by rw [← r.length]; exact hl
  have hbd := hb s us KX (by rw [List.append_nil]; exact hul)
  rw [List.append_nil] at hbd
  have hkind : ∀ y ∈ ps.zip us, scope.names.lookup y.1 = some .local ∨ (scope.names.lookup y.1 = some .cell ∧ ((cellsFrom (s.heap.objs.size + 1) scope.names []).lookup y.1).isSome = true) := fun ⟨n, v⟩ hy => by
    rcases S.par n (List.of_mem_zip hy).1 with q | q
    · exact .inl q
    · exact .inr ⟨q, PySem.W.cellsFrom_some _ _ _ (.inl q)⟩
  refine codeAny_call_function hr.depth (KX _ _ lk) rfl S.co S.gen rfl (PySem.W.codeRec_of KX hcd) (hbd _ _ _ _ ?_)
  refine wpAny_newFunctionEnv_cells S.kind hkind fun env he s1 x => ?_
  subst he
  refine ⟨lim.keeps x.toInCall.keep, codeAny_func ?_⟩
  obtain ⟨tt, ht, hq⟩ := hc A outer s H vs Rh (hr.deeper _) hR
  have I : Inv (cxOf CX0 P w K mg base N qual scope f cdv A outer s H E0) [] (start N vs) H s1 := inv_start S hr.hd e0 hl r x
  rw [hbs]
  have J := I.wish (fun _ _ => False)
  have run : wpAny (model P w) (cxOf CX0 P w K mg base N qual scope f cdv A outer s H E0).nox.A (exec (.If c [.Return (some (.Name "NotImplemented" p1)) p2] [] p3) (cxOf CX0 P w K mg base N qual scope f cdv A outer s H E0).nox.env)
      (fun fl s' => fl = .ret .notImplemented ∧ CE outer P w H s (fun _ H' => Rh H') .none s') (fun _ _ => False) s1 := by
    refine wpAny_If (wpAny_mono (ht.run [] s1 (start N vs) H _ J hq) (fun b s2 hs => ?_) fun _ _ e => e)
    obtain ⟨H1, I1, rfl, q1⟩ := hs
    refine wpAny_execs_cons (wpAny_Return_some (ld_blt I1 (hgl A outer s H) hm (u := .notImplemented) (by decide +kernel) ⟨rfl, .non, H1, I1.os, I1.bare, I1.base, I1.hok, rfl, q1⟩))
  refine wpAny_execs_cons (wpAny_mono run (fun fl s' hs => ?_) fun e s' hs => hs.elim)
  obtain ⟨rfl, h⟩ := hs
  exact ⟨rfl, h⟩
section
variable {X : Cx} {C f : Addr} {k : Nat} {R : List V → Hp → (Hp → Prop) → Prop} {CX : CXT} {fd : FuncData} {ps : List Str} {sp : Sp} {E : XK}
/-- o == text, the own == says NotImplemented -/
def rEqNI (C : Addr) (R : List V → Hp → (Hp → Prop) → Prop) : R2 := fun x y H Q => ∃ a dx fs z, x = .ref a ∧ y = .str z ∧ H a = some (.ins C dx fs) ∧ R [.ref a, .str z] H (fun H' => (∃ dx fs, H' a = some (.ins C dx fs)) ∧ Q (.bl false) H')
theorem op_eqNI (hs : PySem.W.findIn X.K (.ref C) "__eq__" = some (some (.ref f))) (hf : PySem.W.isFn X.K (.ref f) = true) (G : NiOk X.prog X.w X.K X.mg X.base k f R) (hr : Room k X.A) : OpR X (compareOp .Eq) (rEqNI C R) := by
  intro pins s σ H x y v u Q I rx ry h
  obtain ⟨a, dx, fs, z, rfl, rfl, ha, hR⟩ := h
  cases (show v = Value.ref a from rx)
  obtain ⟨t, rfl⟩ := ry
  obtain ⟨mA, J, _⟩ := ins_get I.hok ha
  obtain ⟨od, J, _⟩ := J.look
  show wpAny (model X.prog X.w) X.A (richCompare .Eq (.ref a) (.str z t)) (EP X pins σ Q) X.xe s
  refine rc_ni hr.units0 I.kIn J hs hf (wpAny_call (codeAny_mono (G X.A X.stack s H [.ref a, .str z t] [.ref a, .str z] _ hr I.env0 (.cons rfl (.cons ⟨t, rfl⟩ .nil)) hR) fun r s' hq => ?_))
  cases r with
  | error e => exact False.elim hq
  | ok fl =>
    cases fl with
    | next => exact False.elim hq
    | brk => exact False.elim hq
    | cont => exact False.elim hq
    | ret u =>
      obtain ⟨hu, hq⟩ := hq
      obtain ⟨v, H', I', _, ⟨dx', fs', ha'⟩, q⟩ := I.after hq
      obtain ⟨mA', J', _⟩ := ins_get I'.hok ha'
      obtain ⟨od', J', _⟩ := J'.look
      exact ⟨hu, ⟨_, J'.at_, rfl⟩, .bl false, H', I', rfl, q⟩
/-- o == p, both of the class -/
def rEqOwn (C : Addr) (sp : Sp) (E : XK) : R2 := fun x y H Q => ∃ a dx fs b dy gs, x = .ref a ∧ y = .ref b ∧ H a = some (.ins C dx fs) ∧ H b = some (.ins C dy gs) ∧ sp [.ref a, .ref b] H (fun v H' => ∃ r, v = .bl r ∧ Q (.bl r) H') E
theorem op_eqOwn (F : FnOk X.prog X.w X.K X.mg X.base CX k f fd ps sp) (hs : PySem.W.findIn X.K (.ref C) "__eq__" = some (some (.ref f))) (hf : PySem.W.isFn X.K (.ref f) = true) (hb : Binds X.K fd ps []) (hr : Room k X.A) (hx : Passes CX X E) : OpR X (compareOp .Eq) (rEqOwn C sp E) := by
  intro pins s σ H x y v u Q I rx ry h
  obtain ⟨a, dx, fs, b, dy, gs, rfl, rfl, ha, hb', hsp⟩ := h
  cases (show v = Value.ref a from rx)
  cases (show u = Value.ref b from ry)
  obtain ⟨mA, J, _⟩ := ins_get I.hok ha
  obtain ⟨mB, J', _⟩ := ins_get I.hok hb'
  obtain ⟨od, J, _⟩ := J.look
  obtain ⟨od', J', _⟩ := J'.look
  obtain ⟨m, hF⟩ := I.fr
  show wpAny (model X.prog X.w) X.A (richCompare .Eq (.ref a) (.ref b)) (EP X pins σ Q) X.xe s
  refine PySem.W.cmp_K (op := .Eq) (tb := .ref C) hr.units0 hF I.ok.mod.kin J J'.type (by simp [PySem.W.notFirst]) hs hf ?_
  have hl := F.len _ _ _ _ hsp
  have r2 : Vals [V.ref a, V.ref b] [Value.ref a, Value.ref b] := .cons rfl (.cons rfl .nil)
  refine wpAny_call (codeAny_mono (F.run X.A X.stack s H ⟨[.ref a, .ref b], []⟩ [.ref a, .ref b] [.ref a, .ref b] _ E hr I.env0 (by
    have := hb s [.ref a, .ref b] I.kIn (by simpa using hl)
    simpa using this) r2 hsp) fun r s' hq => ?_)
  cases r with
  | error e => exact hx pins σ H s e s' I hq
  | ok fl =>
    cases fl with
    | ret w =>
      obtain ⟨z, H', I', rz, r, ez, q⟩ := I.after hq
      subst ez
      cases rz
      exact ⟨.bl r, H', I', rfl, q⟩
    | next => exact False.elim hq
    | brk => exact False.elim hq
    | cont => exact False.elim hq
/-- str(o) by an own __str__ -/
def rStrOwn (C : Addr) (sp : Sp) (E : XK) : List V → Hp → VK → Prop := fun xs H Q => ∃ a dx fs, xs = [V.ref a] ∧ H a = some (.ins C dx fs) ∧ sp [.ref a] H (fun v H' => ∃ z, v = .str z ∧ Q (.str z) H') E
theorem call_strOwn (hs : PySem.W.findIn X.K (.ref C) "__str__" = some (some (.ref f))) (hf : PySem.W.isFn X.K (.ref f) = true) (F : FnR X.prog X.w X.K X.mg X.base CX k f sp) (hr : Room (k + 2) X.A) (hx : Passes CX X E) : CallR X (.type "str") (rStrOwn C sp E) := by
  intro pins s σ H xs us Q I r h
  obtain ⟨a, dx, fs, rfl, ha, q⟩ := h
  obtain ⟨u, rfl, ru⟩ := r.one
  cases (show u = Value.ref a from ru)
  obtain ⟨mA, J, _⟩ := ins_get I.hok ha
  obtain ⟨od, J, _⟩ := J.look
  have hr2 : Room k X.A.in1.in1 := (show Room (k + 1) X.A.in1 from Room.in1 hr).in1
  refine PySem.W.kso_call hr2.units0 I.kIn J hs hf (wpAny_mono (wpAny_call (SlX.run_at (us := [.ref a]) (ws := [.ref a]) F hr2 I.env0.in1.in1 hx I (.cons rfl .nil) q)) (fun w s' z => ?_) fun _ _ x => x)
  obtain ⟨z', H', I', rz, i, ei, qz⟩ := z
  subst ei
  obtain ⟨t, e⟩ := (show ∃ t, w = Value.str i t from rz)
  cases e
  exact ⟨.str i, H', I', ⟨t, rfl⟩, qz⟩
end
end R7

set_option maxRecDepth 100000
set_option maxHeartbeats 4000000
/-! == of an instance and a tuple, the own def says NotImplemented -/
namespace RT
open PySem PySem.Spec PyProof.Rows L2
/-! ### list.__eq__, list.__ne__ asked of an instance -/
section
variable {K : PySem.W.Frag} {C : Addr}
theorem not_lst {prog : Program} {w : World} {A : Around} {E : Value → Shared → Prop} {s : Shared} {x : Addr} {o : Obj} (ho : s.heap.get? x = some o) (hc : o.cls = .ref C) (X : K.In s.heap) (e : PySem.W.subIn K (.ref C) (.type "tuple") = some false) {Q : Bool → Shared → Prop} (hq : Q false s) :
    wpAny (model prog w) A (isInstance (.ref x) (.type "tuple")) Q E s := by
  simp only [isInstance]
  refine wpAny_bind (wpAny_typeOf_ref (o := o) ho ?_)
  rw [hc]
  exact (PySem.W.looks_subIn (M := model prog w) X e).here hq
theorem lst_eq_ref (l x : Addr) (o : Obj) (hc : o.cls = .ref C) (e : PySem.W.subIn K (.ref C) (.type "tuple") = some false) :
    Meets (Builtin.«tuple.__eq__» ⟨[.ref l, .ref x], []⟩) (fun _ R s => s.heap.get? x = some o ∧ K.In s.heap ∧ R (.ok (.ret .notImplemented)) s) :=
  .of_wp fun prog w A R s h => by
    obtain ⟨hl, X, h⟩ := h
    have hI : ∀ {Q : Bool → Shared → Prop}, Q false s → wpAny (model prog w) A.in1 (isInstance (.ref x) (.type "tuple")) Q (fun e s' => R (.error e) s') s := fun hq => not_lst hl hc X e hq
    wp_walk using hI
    exact ⟨_, rfl, h⟩
theorem lst_ne_ref (l x : Addr) (o : Obj) (hc : o.cls = .ref C) (e : PySem.W.subIn K (.ref C) (.type "tuple") = some false) :
    Meets (Builtin.«tuple.__ne__» ⟨[.ref l, .ref x], []⟩) (fun _ R s => s.heap.get? x = some o ∧ K.In s.heap ∧ R (.ok (.ret .notImplemented)) s) :=
  .of_wp fun prog w A R s h => by
    obtain ⟨hl, X, h⟩ := h
    have hI : ∀ {Q : Bool → Shared → Prop}, Q false s → wpAny (model prog w) A.in1 (isInstance (.ref x) (.type "tuple")) Q (fun e s' => R (.error e) s') s := fun hq => not_lst hl hc X e hq
    wp_walk using hI
    exact ⟨_, rfl, h⟩
end
section
variable {prog : Program} {w : World} {A : Around} {E : Value → Shared → Prop} {s : Shared} {K : PySem.W.Frag} {x C f l : Addr} {ox : Obj} {od : Option Obj}
theorem sub_lst : PySem.W.subIn K (.type "tuple") (.ref C) = some false := by
  have e : fastBuiltinMro "tuple" = some [.type "tuple", .type "object"] := by decide +kernel
  show (fastBuiltinMro "tuple").map (·.contains (.ref C)) = some false
  rw [e]
  first
    | rfl
    | simp
theorem same_no {Q : Bool → Shared → Prop} {o o2 : Obj} (h1 : s.heap.get? x = some o) (hc : o.cls = .ref C) (h2 : s.heap.get? l = some o2) (hc2 : o2.cls = .type "tuple") (hq : Q false s) : wpAny (model prog w) A (isSame (.ref x) (.ref l)) Q E s := by
  have hne : (x == l) = false := by
    refine beq_eq_false_iff_ne.mpr fun e => ?_
    subst e
    rw [h1] at h2; cases h2
    rw [hc] at hc2; cases hc2
  unfold isSame
  simp only [hne, Bool.false_eq_true, if_false]
  refine wpAny_bind (wpAny_load h1 (wpAny_bind (wpAny_load h2 ?_)))
  rw [hc, hc2]
  exact wpAny_pure hq
/-- what stands behind the own def: the instance, the list -/
def Behind (K : PySem.W.Frag) (x l C : Addr) (s' : Shared) : Prop := (∃ o, s'.heap.get? x = some o ∧ o.cls = .ref C) ∧ (∃ o, s'.heap.get? l = some o ∧ o.cls = .type "tuple") ∧ K.In s'.heap
theorem rc_niL {op : CmpOp} {b : Bool} (hop : (op = .Eq ∧ b = false) ∨ (op = .NotEq ∧ b = true)) {Q : Value → Shared → Prop} (hu : A.units < cLine) (X : K.In s.heap) (I : PySem.W.InstAt s.heap x ox C od) (hT : s.TypeIs (.ref l) "tuple") (hs : PySem.W.findIn K (.ref C) (cmpInfo op).2.1 = some (some (.ref f))) (hf : PySem.W.isFn K (.ref f) = true) (e : PySem.W.subIn K (.ref C) (.type "tuple") = some false)
    (hcall : wpAny (model prog w) A (call (.ref f) [.ref x, .ref l]) (fun v s' => v = .notImplemented ∧ Behind K x l C s' ∧ Q (.bool b) s') E s) :
    wpAny (model prog w) A (richCompare op (.ref x) (.ref l)) Q E s := by
  have one : wpAny (model prog w) A (tryCompare (.ref x) (cmpInfo op).2.1 (.ref l)) (fun r s' => r = none ∧ Behind K x l C s' ∧ Q (.bool b) s') E s := by
    unfold tryCompare
    refine wpAny_bind (PySem.W.ifBound_K X I hs hf (wpAny_mono hcall (fun v s' hv => ?_) fun _ _ e => e))
    obtain ⟨rfl, h1, h2⟩ := hv
    exact wpAny_pure ⟨rfl, h1, h2⟩
  have two : ∀ s', Behind K x l C s' → Q (.bool b) s' → wpAny (model prog w) A (tryCompare (.ref l) (cmpInfo op).2.2 (.ref x)) (fun r s2 => r = none ∧ Behind K x l C s2 ∧ Q (.bool b) s2) E s' := fun s' hb hq => by
    obtain ⟨⟨o, h1, h2⟩, ⟨o2, h3, h4⟩, h5⟩ := id hb
    rcases hop with ⟨rfl, _⟩ | ⟨rfl, _⟩
    · exact wpAny_tryCompare_declines ⟨o2, h3, h4⟩ F.slot_tuple_eq (call_meets F.slot_tuple_eq ⟨o2, h3, h4⟩ F.entry_tuple_eq (F.args_tuple_eq_2 _ _) (lst_eq_ref l x o h2 e) ⟨h1, h5, rfl, rfl, hb, hq⟩)
    · exact wpAny_tryCompare_declines ⟨o2, h3, h4⟩ F.slot_tuple_ne (call_meets F.slot_tuple_ne ⟨o2, h3, h4⟩ F.entry_tuple_ne (F.args_tuple_ne_2 _ _) (lst_ne_ref l x o h2 e) ⟨h1, h5, rfl, rfl, hb, hq⟩)
  unfold richCompare
  simp only [oneThing_ref]
  refine wpAny_holding (wpAny_bind (wpAny_cRoomFor hu ?_))
  refine wpAny_bind (I.type.here ?_)
  refine wpAny_bind (wpAny_typeOf hT ?_)
  split
  · refine wpAny_bind ((PySem.W.looks_subIn X sub_lst).here ?_)
    simp only [Bool.false_eq_true, if_false, Bool.not_false, if_true]
    refine wpAny_bind (m := tryCompare (.ref x) _ (.ref l)) (wpAny_mono one (fun r s1 y => ?_) fun _ _ e => e)
    obtain ⟨y1, y2, y3⟩ := y
    subst y1
    refine wpAny_bind (m := tryCompare (.ref l) _ (.ref x)) (wpAny_mono (two s1 y2 y3) (fun r s2 y => ?_) fun _ _ e => e)
    obtain ⟨y1, ⟨⟨o, h1, h2⟩, ⟨o2, h3, h4⟩, h5⟩, y4⟩ := y
    subst y1
    rcases hop with ⟨rfl, rfl⟩ | ⟨rfl, rfl⟩
    · exact wpAny_bind (wpAny_rule (wpAny_bind (same_no h1 h2 h3 h4 (wpAny_pure y4))))
    · exact wpAny_bind (wpAny_rule (wpAny_bind (same_no h1 h2 h3 h4 (wpAny_pure y4))))
  · rename_i q
    exact absurd (by simp) q
end
section
variable {X : Cx} {C f : Addr} {k : Nat} {R : List V → Hp → (Hp → Prop) → Prop} {CX : CXT} {fd : FuncData} {ps : List Str} {sp : Sp} {E : XK}
/-- o == tuple, o != tuple, the own def says NotImplemented -/
def rNiT (C : Addr) (b : Bool) (R : List V → Hp → (Hp → Prop) → Prop) : R2 := fun x y H Q => ∃ a dx fs l xs, x = .ref a ∧ y = .ref l ∧ H a = some (.ins C dx fs) ∧ H l = some (.tup xs) ∧ R [.ref a, .ref l] H (fun H' => (∃ dx fs, H' a = some (.ins C dx fs)) ∧ (∃ xs, H' l = some (.tup xs)) ∧ Q (.bl b) H')
theorem op_niT {op : CmpOp} {b : Bool} (hop : (op = .Eq ∧ b = false) ∨ (op = .NotEq ∧ b = true)) (hs : PySem.W.findIn X.K (.ref C) (cmpInfo op).2.1 = some (some (.ref f))) (hf : PySem.W.isFn X.K (.ref f) = true) (e : PySem.W.subIn X.K (.ref C) (.type "tuple") = some false) (G : R7.NiOk X.prog X.w X.K X.mg X.base k f R) (hr : Room k X.A) : OpR X (compareOp op) (rNiT C b R) := by
  intro pins s σ H x y v u Q I rx ry h
  obtain ⟨a, dx, fs, l, xs, rfl, rfl, ha, hl, hR⟩ := h
  cases (show v = Value.ref a from rx)
  cases (show u = Value.ref l from ry)
  obtain ⟨mA, J, _⟩ := ins_get I.hok ha
  obtain ⟨od, J, _⟩ := J.look
  obtain ⟨its, r, ⟨o, ho, hc, n, hd⟩, hz⟩ := I.tuple (SqT.of hl)
  have main : wpAny (model X.prog X.w) X.A (richCompare op (.ref a) (.ref l)) (EP X pins σ Q) X.xe s := by
    refine rc_niL hop hr.units0 I.kIn J ⟨o, ho, hc⟩ hs hf e (wpAny_call (codeAny_mono (G X.A X.stack s H [.ref a, .ref l] [.ref a, .ref l] _ hr I.env0 (.cons rfl (.cons rfl .nil)) hR) fun r s' hq => ?_))
    cases r with
    | error e => exact False.elim hq
    | ok fl =>
      cases fl with
      | next => exact False.elim hq
      | brk => exact False.elim hq
      | cont => exact False.elim hq
      | ret u =>
        obtain ⟨hu, hq⟩ := hq
        obtain ⟨v, H', I', _, ⟨dx', fs', ha'⟩, ⟨xs', hl'⟩, q⟩ := I.after hq
        obtain ⟨mA', J', _⟩ := ins_get I'.hok ha'
        obtain ⟨od', J', _⟩ := J'.look
        obtain ⟨its', r', ⟨o', ho', hc', n', hd'⟩, hz'⟩ := I'.tuple (SqT.of hl')
        exact ⟨hu, ⟨⟨_, J'.at_, rfl⟩, ⟨o', ho', hc'⟩, I'.kIn⟩, .bl b, H', I', rfl, q⟩
  rcases hop with ⟨rfl, _⟩ | ⟨rfl, _⟩
  · exact main
  · exact main
end
end RT

set_option maxRecDepth 100000
set_option maxHeartbeats 8000000
namespace K35
open PySem PySem.Spec PyProof.Rows L2
theorem len11 {xs : List V} (h : xs.length = 11) : ∃ x0 x1 x2 x3 x4 x5 x6 x7 x8 x9 x10 : V, xs = [x0, x1, x2, x3, x4, x5, x6, x7, x8, x9, x10] :=
  match xs, h with
  | [x0, x1, x2, x3, x4, x5, x6, x7, x8, x9, x10], _ => ⟨_, _, _, _, _, _, _, _, _, _, _, rfl⟩
section
variable {P : Program} {w : World} {K : PySem.W.Frag} {mg : Str → Option Value} {base : Heap}
/-! ### _law_told -/
def spTold (C : Addr) : Sp := fun vs H Q _ => ∃ (p : Addr) (xs : List V), vs = [.ref p] ∧ BookA C H p xs ∧ xs.length = 11 ∧ ∀ H' l, Same H H' → H l = none → H' l = some (.lst xs) → Q (.ref l) H'
theorem scTold : FnScope ["_law_book_here", "_law_costs"] ["_law_book_here"] (defScope sTold) := ⟨rfl, rfl, rfl, by decide +kernel, rfl, by decide +kernel, by decide +kernel⟩
theorem ok_told {C FT f : Addr} {mc u : Value} {fd : FuncData} (T : Bok K mg C FT mc u) (F : Fun K "_law_told" "_law_told" sTold f fd) : FnOk P w K mg base CX0 1 f fd ["_law_book_here"] (spTold C) := by
  refine F.ok scTold (fun vs H Q E h => ?_) (fun cdv A0 outer s H vs Q E hr h => ?_)
  · obtain ⟨p, xs, rfl, _⟩ := h; rfl
  · obtain ⟨p, xs, rfl, ⟨dx, w0, hp, hw⟩, hl, q⟩ := h
    obtain ⟨x0, x1, x2, x3, x4, x5, x6, x7, x8, x9, x10, rfl⟩ := len11 hl
    refine ⟨_, (pss_cons (ps_set (i := 1) scTold.nd rfl (.inl rfl) (pe_lst (pa_cons (pe_fld (pv 0) rfl) (pa_cons (pe_fld (pv 0) rfl) (pa_cons (pe_fld (pv 0) rfl) (pa_cons (pe_fld (pv 0) rfl) (pa_cons (pe_fld (pv 0) rfl) (pa_cons (pe_fld (pv 0) rfl) pa_nil))))))))
      (pss_one (ps_ret (pe_op op_cat (pe_op op_cat (pe_lst (pa_cons (pe_fld (pv 0) rfl) (pa_cons (pe_fld (pv 0) rfl) pa_nil))) (pv 1)) (pe_lst (pa_cons (pe_fld (pv 0) rfl) (pa_cons (pe_fld (pv 0) rfl) (pa_cons (pe_fld (pv 0) rfl) pa_nil)))))))), ?_⟩
    refine ⟨.ref p, rfl, p, C, dx, _, x2, rfl, hp, T.cl, T.n_joint, rfl, .ref p, rfl, p, C, dx, _, x3, rfl, hp, T.cl, T.n_over, rfl, .ref p, rfl, p, C, dx, _, x4, rfl, hp, T.cl, T.n_keep, rfl, .ref p, rfl, p, C, dx, _, x5, rfl, hp, T.cl, T.n_orphan, rfl, .ref p, rfl, p, C, dx, _, x6, rfl, hp, T.cl, T.n_widow, rfl, .ref p, rfl, p, C, dx, _, x7, rfl, hp, T.cl, T.n_wait, rfl, by show 6 ≤ sizeLine; decide, fun l1 n1 => ?_⟩
    have s1 := same_new n1 (o := .lst [x2, x3, x4, x5, x6, x7])
    have h1 : (upd H l1 (.lst [x2, x3, x4, x5, x6, x7])) l1 = some (.lst [x2, x3, x4, x5, x6, x7]) := upd_same
    generalize upd H l1 (.lst [x2, x3, x4, x5, x6, x7]) = H1 at s1 h1 ⊢
    have hp1 := s1 _ _ hp
    refine ⟨.ref p, rfl, p, C, dx, _, x0, rfl, hp1, T.cl, T.n_room, rfl, .ref p, rfl, p, C, dx, _, x1, rfl, hp1, T.cl, T.n_height, rfl, by show 2 ≤ sizeLine; decide, fun l2 n2 => ?_⟩
    have s2 := same_new n2 (o := .lst [x0, x1])
    have h2 : (upd H1 l2 (.lst [x0, x1])) l2 = some (.lst [x0, x1]) := upd_same
    generalize upd H1 l2 (.lst [x0, x1]) = H2 at s2 h2 ⊢
    refine ⟨.ref l1, rfl, l2, l1, _, _, rfl, rfl, h2, s2 _ _ h1, by show 8 ≤ sizeLine; decide, fun l3 n3 => ?_⟩
    have s3 := same_new n3 (o := .lst [x0, x1, x2, x3, x4, x5, x6, x7])
    have h3 : (upd H2 l3 (.lst [x0, x1, x2, x3, x4, x5, x6, x7])) l3 = some (.lst [x0, x1, x2, x3, x4, x5, x6, x7]) := upd_same
    have hp3 := s3 _ _ (s2 _ _ hp1)
    refine ⟨.ref p, rfl, p, C, dx, _, x8, rfl, hp3, T.cl, T.n_columns, rfl, .ref p, rfl, p, C, dx, _, x9, rfl, hp3, T.cl, T.n_gutter, rfl, .ref p, rfl, p, C, dx, _, x10, rfl, hp3, T.cl, T.n_full, rfl, by show 3 ≤ sizeLine; decide, fun l4 n4 => ?_⟩
    have s4 := same_new n4 (o := .lst [x8, x9, x10])
    refine ⟨l3, l4, _, _, rfl, rfl, s4 _ _ h3, upd_same, by show 11 ≤ sizeLine; decide, fun l5 n5 => ?_⟩
    have sA := s1.trans (s2.trans (s3.trans s4))
    exact q _ l5 (sA.trans (same_new n5)) (sA.free n5) upd_same
/-! ### == -/
/-- the values as data -/
def dV : V → PyData
  | .int i => .int i
  | .bl b => .bool b
  | _ => .none
theorem dp_flat {H : Hp} : ∀ {xs : List V}, (∀ x ∈ xs, (∃ i, x = .int i) ∨ ∃ b, x = .bl b) → DpAll K H xs (xs.map dV)
  | [], _ => .nil
  | x :: xs, h => by
    refine .cons ?_ (dp_flat fun y hy => h y (List.mem_cons_of_mem _ hy))
    rcases h x (List.mem_cons_self ..) with ⟨i, rfl⟩ | ⟨b, rfl⟩
    · exact .int i
    · exact .bl b
theorem Good.flat {xs : List V} (g : Good xs) : ∀ x ∈ xs, (∃ i, x = .int i) ∨ ∃ b, x = .bl b := fun x hx => by
  obtain ⟨k, hk⟩ := List.mem_iff_getElem?.mp hx
  have := g.2 k x hk
  cases x with
  | int i => exact .inl ⟨i, rfl⟩
  | bl b => exact .inr ⟨b, rfl⟩
  | _ => cases this
end
end K35

set_option maxRecDepth 100000
set_option maxHeartbeats 8000000
namespace K35
open PySem PySem.Spec PyProof.Rows L2
/-- two values of one kind -/
def Kin (u v : V) : Prop := (∃ i j, u = .int i ∧ v = .int j) ∨ ∃ a b, u = .bl a ∧ v = .bl b
theorem eqv_kin : ∀ {u v : V}, Kin u v → PyData.eqv (dV u) (dV v) = decide (u = v) := fun {u v} h => by
  rcases h with ⟨i, j, rfl, rfl⟩ | ⟨a, b, rfl, rfl⟩
  · show (i == j) = _
    rw [Bool.eq_iff_iff]; simp
  · show (a == b) = _
    rw [Bool.eq_iff_iff]; simp
theorem eqv_all : ∀ {xs ys : List V}, xs.length = ys.length → (∀ (k : Nat) (u v : V), xs[k]? = some u → ys[k]? = some v → Kin u v) → PyData.eqvAll (xs.map dV) (ys.map dV) = decide (xs = ys)
  | [], [], _, _ => rfl
  | [], _ :: _, h, _ => nomatch h
  | _ :: _, [], h, _ => nomatch h
  | x :: xs, y :: ys, h, hk => by
    show (PyData.eqv (dV x) (dV y) && PyData.eqvAll (xs.map dV) (ys.map dV)) = _
    rw [eqv_kin (hk 0 x y rfl rfl), eqv_all (Nat.succ.inj h) fun k u v a b => hk (k + 1) u v a b, Bool.eq_iff_iff]
    simp
theorem Good.kin {xs ys : List V} (g : Good xs) (g2 : Good ys) : ∀ (k : Nat) (u v : V), xs[k]? = some u → ys[k]? = some v → Kin u v := fun k u v a b => by
  have h1 := g.2 k u a
  have h2 := g2.2 k v b
  have c : ∀ {w : V}, fitsB k w = true → (k < 10 ∧ ∃ i, w = .int i) ∨ (k = 10 ∧ ∃ q, w = .bl q) := fun {w} h => by
    cases w with
    | int i =>
      have h : (decide (k < 10) && (decide (los.getD k 0 ≤ i) && decide (i ≤ his.getD k 0))) = true := h
      rw [Bool.and_eq_true] at h
      exact .inl ⟨of_decide_eq_true h.1, i, rfl⟩
    | bl q => exact .inr ⟨of_decide_eq_true h, q, rfl⟩
    | _ => cases h
  rcases c h1 with ⟨n1, i, rfl⟩ | ⟨n1, p, rfl⟩ <;> rcases c h2 with ⟨n2, j, rfl⟩ | ⟨n2, q, rfl⟩
  · exact .inl ⟨i, j, rfl, rfl⟩
  · omega
  · omega
  · exact .inr ⟨p, q, rfl, rfl⟩
theorem Good.eqv {xs ys : List V} (g : Good xs) (g2 : Good ys) : PyData.eqvAll (xs.map dV) (ys.map dV) = decide (xs = ys) := eqv_all (g.1.trans g2.1.symm) (g.kin g2)
theorem can_flat : ∀ (xs : List V), PyData.canLayAll0 (xs.map dV) = true ∧ PyData.depthAll (xs.map dV) = 0
  | [] => ⟨rfl, rfl⟩
  | x :: xs => by
    obtain ⟨h1, h2⟩ := can_flat xs
    have hx : (dV x).canLay0 = true ∧ (dV x).depth = 0 := by cases x <;> exact ⟨rfl, rfl⟩
    refine ⟨?_, ?_⟩
    · show ((dV x).canLay0 && PyData.canLayAll0 (xs.map dV)) = true
      rw [hx.1, h1]; rfl
    · show max (dV x).depth (PyData.depthAll (xs.map dV)) = 0
      rw [hx.2, h2]; rfl
theorem sh_tup (xs : List V) : SeqAt.shaped (.tuple (xs.map dV)) = true := by
  obtain ⟨h1, h2⟩ := can_flat xs
  show (PyData.canLayAll0 (xs.map dV) && decide (PyData.depthAll (xs.map dV) + 1 ≤ 64)) = true
  rw [h1, h2]; rfl
theorem sh_lst (xs : List V) : SeqAt.shaped (.list (xs.map dV)) = true := sh_tup xs
section
variable {P : Program} {w : World} {K : PySem.W.Frag} {mg : Str → Option Value} {base : Heap}
/-- what isinstance asks -/
structure BkI (K : PySem.W.Frag) (C : Addr) : Prop where
  ha : PySem.W.findIn K (.ref C) "__class__" = some (some (.builtin "object.__class__"))
  hn : PySem.W.specialIn K (.builtin "object.__class__") "__get__" = some (some (.builtin "getset_descriptor.__get__"))
  ht : PySem.W.takesIn K (.builtin "object.__class__") = some true
  hm : PySem.W.mroIn K C (.type "object") = some true
  ks : PySem.W.kitOne K (.ref C) (.ref C) = some true
  kl : PySem.W.kitOne K (.type "list") (.ref C) = some false
  kt : PySem.W.kitOne K (.type "tuple") (.ref C) = some false
def spEq (C : Addr) : Sp := fun vs H Q _ => ∃ (p q : Addr) (xs ys : List V), vs = [.ref p, .ref q] ∧ BookA C H p xs ∧ BookA C H q ys ∧ Good xs ∧ Good ys ∧ Q (.bl (decide (xs = ys))) H
abbrev pOt : List Str := ["self", "other"]
theorem scEq : FnScope pOt pOt (defScope sEq) := ⟨rfl, rfl, rfl, by decide +kernel, rfl, by decide +kernel, by decide +kernel⟩
theorem lkW {xs : List V} (h : xs.length = 11) (w : Addr) : (fsB xs w).lookup ("_worths" : Str) = some (.ref w) := by
  obtain ⟨x0, x1, x2, x3, x4, x5, x6, x7, x8, x9, x10, rfl⟩ := len11 h
  rfl
theorem ok_eq {C FT f : Addr} {mc u : Value} {fd : FuncData} (B : Blt mg) (T : Bok K mg C FT mc u) (I : BkI K C) (F : Fun K "__eq__" "Book.__eq__" sEq f fd) : FnOk P w K mg base CX0 1 f fd pOt (spEq C) := by
  refine F.ok scEq (fun vs H Q E h => ?_) (fun cdv A0 outer s H vs Q E hr h => ?_)
  · obtain ⟨p, q, xs, ys, rfl, _⟩ := h; rfl
  · obtain ⟨p, r, xs, ys, rfl, ⟨dx, w1, hp, hw⟩, ⟨dy, w2, hr2, hv⟩, g1, g2, q⟩ := h
    refine ⟨_, (pss_cons (ps_if (pt_not (pt_val (pe_callB call_isi (by rfl) B.isi (by decide +kernel) (pa_cons (pv 1) (pa_cons (pe_glob (v := .ref C) (by rfl) T.mgC rfl) pa_nil))))) (pss_one ps_never) pss_nil)
      (pss_one (ps_ret (pe_cmpR (op_eqD hr.units) (pe_fld (pv 0) rfl) (pe_fld (pv 1) rfl) (nomark _))))), ?_⟩
    refine ⟨.ref r, rfl, .ref r, .ref C, .ref C, .ref C, true, rfl, .own C, .base (.ins hr2 T.cl I.ha I.hn I.ht I.hm), I.ks, _, rfl, iteF ?_⟩
    refine ⟨.ref p, rfl, p, C, dx, _, .ref w1, rfl, hp, T.cl, T.n_worths, lkW g1.1 w1, .ref r, rfl, r, C, dy, _, .ref w2, rfl, hr2, T.cl, T.n_worths, lkW g2.1 w2, .tuple (xs.map dV), .tuple (ys.map dV), .tup (SqT.of hw) (dp_flat g1.flat), .tup (SqT.of hv) (dp_flat g2.flat), sh_tup xs, sh_tup ys, ?_⟩
    have e : PyData.eqv (.tuple (xs.map dV)) (.tuple (ys.map dV)) = decide (xs = ys) := g1.eqv g2
    rw [e]; exact q
def niR : List V → Hp → (Hp → Prop) → Prop := fun vs H Rh => ∃ (r l : Addr) (xs : List V), vs = [.ref r, .ref l] ∧ (H l = some (.lst xs) ∨ H l = some (.tup xs)) ∧ Rh H
theorem ni_eq {C FT f : Addr} {mc u : Value} {fd : FuncData} (B : Blt mg) (T : Bok K mg C FT mc u) (I : BkI K C) (F : Fun K "__eq__" "Book.__eq__" sEq f fd) (b : Binds K fd pOt []) : R7.NiOk P w K mg base 1 f niR := by
  obtain ⟨oc, od, kV, doc, pm, an, cdv, ct, osl, rfl, lk, hcd⟩ := F.ex
  refine R7.ni_of lk hcd scEq rfl b (fun vs H Rh h => ?_) B.NotImplemented (fun _ _ _ _ => by rfl) (fun A outer s H vs Rh hr h => ?_)
  · obtain ⟨r, l, xs, rfl, _⟩ := h; rfl
  · obtain ⟨r, l, xs, rfl, hl, q⟩ := h
    refine ⟨_, (pt_not (pt_val (pe_callB call_isi (by rfl) B.isi (by decide +kernel) (pa_cons (pv 1) (pa_cons (pe_glob (v := .ref C) (by rfl) T.mgC rfl) pa_nil))))), ?_⟩
    rcases hl with hl | hl
    · exact ⟨.ref l, rfl, .ref l, .ref C, .type "list", .ref C, false, rfl, .own C, .base (.lst hl), I.kl, _, rfl, rfl, q⟩
    · exact ⟨.ref l, rfl, .ref l, .ref C, .type "tuple", .ref C, false, rfl, .own C, .base (.tup hl), I.kt, _, rfl, rfl, q⟩
end
end K35

set_option maxRecDepth 100000
set_option maxHeartbeats 2000000
/-! a def with keyword parameters left over (`**fields`), called with keywords -/
namespace RY
open PySem PySem.Spec PyProof.Rows L2
section
variable {prog : Program} {w : World} {A : Around} {E : Value → Shared → Prop} {d : Addr}
theorem ns_set {s : Shared} {es : List DictEntry} {n : Nat} {k : Str} {v : Value} {Q : Unit → Shared → Prop} (D : s.heap.get? d = some (PySem.W.dictOf es n))
    (hs : ∀ e ∈ es, e.key.isStr k = false) (hr : ∀ e ∈ es, e.refKey = false)
    (h : ∀ h', h'.get? d = some (PySem.W.dictOf (es ++ [⟨PyData.keyHash w.params k, .str k s.toks, v⟩]) (n + 1)) → Heap.SameBut d s.heap h' → Q () { s with heap := h', toks := s.toks + 1 }) :
    wpAny (model prog w) A (nsSet d k v) Q E s := by
  have e1 : es.any (·.key.isStr k) = false := by
    cases q : es.any (·.key.isStr k) with
    | false => rfl
    | true => obtain ⟨e, he, z⟩ := List.any_eq_true.mp q; rw [hs e he] at z; cases z
  have e2 : es.any (·.refKey) = false := by
    cases q : es.any (·.refKey) with
    | false => rfl
    | true => obtain ⟨e, he, z⟩ := List.any_eq_true.mp q; rw [hr e he] at z; cases z
  have e : Obj.putName k (PyData.keyHash w.params k) (.str k s.toks) v (PySem.W.dictOf es n) = PySem.W.dictOf (es ++ [⟨PyData.keyHash w.params k, .str k s.toks, v⟩]) (n + 1) := by
    rw [PySem.W.putName_dict, PySem.W.putL_new hs]
    show PySem.W.dictOf _ (if es.any (·.key.isStr k) then n else n + 1) = _
    rw [e1, if_neg Bool.false_ne_true]
  have c : aRefKeyMayBeTheName k es.toArray = false := by
    rw [aRefKeyMayBeTheName_at, ← Array.any_toList, ← Array.any_toList]
    show (!es.any (·.key.isStr k) && es.any (·.refKey)) = false
    rw [e2, Bool.and_false]
  have z := h (s.heap.update d (Obj.putName k (PyData.keyHash w.params k) (.str k s.toks) v)) (by rw [← e]; exact Heap.get?_update_self _ D (by rw [e]; rfl)) (Heap.SameBut.update ..)
  unfold nsSet
  refine wpAny_bind (wpAny_bind (wpAny_askSetting (wpAny_pure (wpAny_bind (wpAny_mkText (wpAny_bind (wpAny_loadPart D ?_)))))))
  dsimp only
  rw [c]
  exact wpAny_updatePart D z
theorem ns_fill {Q : PUnit → Shared → Prop} : ∀ (ex : List (Str × Value)) (s : Shared) (es : List DictEntry) (n : Nat), s.heap.get? d = some (PySem.W.dictOf es n) →
    (∀ e ∈ es, ∀ x ∈ ex, e.key.isStr x.1 = false) → (∀ e ∈ es, e.refKey = false) → (ex.map (·.1)).Nodup →
    (∀ h', h'.get? d = some (PySem.W.dictOf (es ++ PySem.W.kwEs w.params s.toks ex) (n + ex.length)) → Heap.SameBut d s.heap h' → Q ⟨⟩ { s with heap := h', toks := s.toks + ex.length }) →
    wpAny (model prog w) A (forIn ex PUnit.unit fun x _ => (nsSet d x.1 x.2 >>= fun _ => pure (ForInStep.yield PUnit.unit))) Q E s
  | [], s, es, n, D, _, _, _, h => by
    rw [List.forIn_nil]
    refine wpAny_pure (h s.heap ?_ (.refl ..))
    show s.heap.get? d = some (PySem.W.dictOf (es ++ []) n)
    rw [List.append_nil]
    exact D
  | x :: r, s, es, n, D, hs, hr, hn, h => by
    obtain ⟨hn1, hn2⟩ := List.nodup_cons.mp (show (x.1 :: r.map (·.1)).Nodup from hn)
    rw [List.forIn_cons]
    refine wpAny_bind (wpAny_bind (ns_set D (fun e he => hs e he x (.head _)) hr fun h' D' B' => wpAny_pure ?_))
    show wpAny (model prog w) A (forIn r PUnit.unit fun x _ => (nsSet d x.1 x.2 >>= fun _ => pure (ForInStep.yield PUnit.unit))) Q E { s with heap := h', toks := s.toks + 1 }
    refine ns_fill r { s with heap := h', toks := s.toks + 1 } _ _ D' (fun e he y hy => ?_) (fun e he => ?_) hn2 fun h'' D'' B'' => ?_
    · rcases List.mem_append.mp he with he | he
      · exact hs e he y (.tail _ hy)
      · obtain rfl := List.mem_singleton.mp he
        show (x.1 == y.1) = false
        exact beq_eq_false_iff_ne.mpr fun q => hn1 (by rw [q]; exact List.mem_map_of_mem hy)
    · rcases List.mem_append.mp he with he | he
      · exact hr e he
      · obtain rfl := List.mem_singleton.mp he
        rfl
    · have t1 : s.toks + 1 + r.length = s.toks + (r.length + 1) := by omega
      have t2 : n + 1 + r.length = n + (r.length + 1) := by omega
      show Q ⟨⟩ { s with heap := h'', toks := s.toks + 1 + r.length }
      rw [t1]
      refine h h'' ?_ (B'.trans B'')
      rw [t2, List.append_assoc] at D''
      exact D''
theorem kw_pairs : ∀ (ex : List (Str × Value)) (t : Tok), Pairs (mixKind prog w) (PySem.W.kwEs w.params t ex) (ex.map fun x => ((Sum.inr x.1 : Key), x.2))
  | [], _ => Pairs.nil
  | x :: r, t => Pairs.cons (mixKind_str prog w x.1 t) rfl (kw_pairs r (t + 1))
theorem kw_isDict {ex : List (Str × Value)} (t : Tok) (n : Nat) (hn : (ex.map (·.1)).Nodup) : (PySem.W.dictOf (PySem.W.kwEs w.params t ex) n).IsDictOf (mixKind prog w) (ex.map fun x => ((Sum.inr x.1 : Key), x.2)) :=
  ⟨(PySem.W.kwEs w.params t ex).toArray, n, ⟨rfl, rfl, rfl⟩, rfl, fun e he => by
    obtain ⟨k, u, hk, hh⟩ := PySem.W.kwEs_key ex t e (List.mem_toArray.mp he)
    exact ⟨Sum.inr k, by rw [hk]; exact mixKind_str prog w k u, hh.trans rfl⟩, kw_pairs ex t, by
      rw [List.map_map]
      show (ex.map ((Sum.inr : Str → Key) ∘ Prod.fst)).Nodup
      rw [← List.map_map]
      exact hn.map _ (fun a b hab e => hab (Sum.inr.inj e))⟩
end
/-- an exception told of a heap to which objects were added, its context known -/
theorem cxUpN {P : Program} {w : World} : StX.CXUp (L2N.CX P w) := fun outer s H s2 H2 E e s' un kp ho c => by
  obtain ⟨a, B, H', cls, d, rfl, fl, hok, ub, na, os, ag, he⟩ := c
  have fr : ∀ b o, s.heap.get? b = some o → H b = none → H2 b = none := fun b o q n => un.free b o q n (by simp)
  have kb : ∀ b ps, H b = some (.tbl ps) → ∃ more, H' b = some (.tbl (ps ++ more)) := fun b ps q => by
    obtain ⟨m1, e1⟩ := un.tbls b ps q
    obtain ⟨m2, e2⟩ := ub.tbls b _ e1
    exact ⟨m1 ++ m2, by rw [e2, Array.append_assoc]⟩
  have u2 : UB (frs outer) H H' s.heap B s'.heap :=
    { keep := fun b o q n hb => ub.keep b o (kp b o q) (fr b o q n) hb, slot := fun b o q hb => ub.slot b o (kp b o q) hb, free := fun b o q n => ub.free b o (kp b o q) (fr b o q n),
      there := fun b o q hb => ub.there b o (kp b o q) hb, tups := fun b xs q => ub.tups b xs (un.tups b xs q), frzs := fun b o xs q => ub.frzs b o xs (un.frzs b o xs q), tbls := kb }
  exact ⟨a, B, H', cls, d, rfl, fl, hok, u2, na, os.trans ho, ag, he⟩
/-- the dict of the keywords -/
def kwKV (ks : List Str) (zs : List V) : List (Key × V) := (ks.map Sum.inr).zip zs
theorem kwKV_rel : ∀ {ks : List Str} {zs : List V} {ws : List Value}, Vals zs ws → KV (kwKV ks zs) ((ks.zip ws).map fun x => ((Sum.inr x.1 : Key), x.2))
  | [], _, _, _ => .nil
  | _ :: _, _, _, .nil => .nil
  | _ :: _, _, _, .cons r t => .cons ⟨rfl, r⟩ (kwKV_rel t)
/-- what is bound: the parameters, and a new dict of the keywords -/
def KwB (fd : FuncData) (ps : List Str) (pd : Str) (ks : List Str) : Prop := ∀ us ws : List Value, us.length = ps.length → ws.length = ks.length →
  bindArgs fd ⟨us, ks.zip ws⟩ = ((alloc ({ cls := .type "dict", data := .dict #[] } : Obj) : Sem Addr) >>= fun d => (forIn (ks.zip ws) PUnit.unit fun x _ => (nsSet d x.1 x.2 >>= fun _ => pure (ForInStep.yield PUnit.unit))) >>= fun _ => pure (ps.zip us ++ [(pd, Value.ref d)]))
def FnKw (P : Program) (w : World) (K : PySem.W.Frag) (mg : Str → Option Value) (base : Heap) (CX : CXT) (k : Nat) (f : Addr) (fd : FuncData) (ps : List Str) (pd : Str) (sp : Sp) : Prop :=
  ∀ (A : Around) (outer : List Env) (s : Shared) (H : Hp) (us ws : List Value) (vs zs : List V) (ks : List Str) (Q : VK) (E : XK), Room k A → Env0 P w K mg base A outer s H → KwB fd ps pd ks → ks.Nodup → ks.length ≤ 1000 → Vals vs us → Vals zs ws →
    vs.length = ps.length → zs.length = ks.length → (∀ d, H d = none → sp (vs ++ [V.ref d]) (upd H d (.dK (kwKV ks zs))) Q E) → codeAny (model P w) A (.call (.ref f) ⟨us, ks.zip ws⟩) (CR CX outer P w H s Q E) s
section
variable {P : Program} {w : World} {K : PySem.W.Frag} {mg : Str → Option Value} {base : Heap} {A : Around} {outer : List Env} {s : Shared} {H : Hp}
theorem env0_made {h' : Heap} {a : Addr} {u : HO} {t : Nat} (e0 : Env0 P w K mg base A outer s H) (kp : ∀ b x, s.heap.get? b = some x → h'.get? b = some x) (sz : s.heap.objs.size ≤ h'.objs.size) (ha : s.heap.objs.size ≤ a) (new : ObjOk P w (upd H a u) h' a u) :
    Env0 P w K mg base A outer { s with heap := h', toks := t } (upd H a u) := by
  refine ⟨e0.frames, e0.mod, fun b x e => ⟨kp b x (e0.bs b x e).1, ?_⟩, Nat.le_trans e0.bsz sz, Heap.FunFrames.of_keeps (fun b x e _ => ⟨x, kp b x e, rfl⟩) e0.funs, fun b hb => ?_, e0.hok.laid kp ha new, e0.bare⟩
  · rw [upd_ne (Nat.ne_of_lt (Nat.lt_of_lt_of_le (Heap.lt_size (e0.bs b x e).1) ha))]
    exact (e0.bs b x e).2
  · obtain ⟨_, x, hx, _⟩ := e0.funs.mem hb
    rw [upd_ne (Nat.ne_of_lt (Nat.lt_of_lt_of_le (Heap.lt_size hx) ha))]
    exact e0.frf b hb
variable {CX : CXT} {k : Nat} {f : Addr} {x qual : Str} {st : Stmt} {fd : FuncData} {N ps : List Str} {pd : Str} {sp : Sp}
/-- THE RULE for such a def -/
theorem fn_kw (F : Fun K x qual st f fd) (S : FnScope N (ps ++ [pd]) (defScope st)) (hCX : StX.CXUp CX)
    (hbody : ∀ (cdv : Value) (A : Around) (outer : List Env) (s : Shared) (H : Hp) (vs : List V) (Q : VK) (E : XK), Room k (A.deeper (envOfC qual (defScope st) s.heap.objs.size f cdv)) → sp vs H Q E →
      ∃ t, PSs (cxOf CX P w K mg base N qual (defScope st) f cdv A outer s H E) (defBody st) t ∧ t { nx := fun _ H' => Q .non H', rt := Q } (start N vs) H) : FnKw P w K mg base CX (k + 1) f fd ps pd sp := by
  obtain ⟨oc, od, kV, doc, pm, an, cdv, ct, osl, rfl, lk, hcd⟩ := F.ex
  intro A outer s H us ws vs zs ks Q E hr e0 hb nd hks r rz l1 l2 hq
  have hn : H s.heap.objs.size = Option.none := e0.hok.fresh (Nat.le_refl _)
  have hu : us.length = ps.length := by rw [← r.length]; exact l1
  have hw : ws.length = ks.length := by rw [← rz.length]; exact l2
  have keys : (ks.zip ws).map (·.1) = ks := List.map_fst_zip (by rw [hw]; exact Nat.le_refl _)
  refine StX.run_bnd lk hcd S hr e0 (G := fun xs H2 => ∃ p, H p = Option.none ∧ xs = vs ++ [V.ref p] ∧ H2 = upd H p (.dK (kwKV ks zs))) (fun A' Ex Q' h => ?_) fun s2 H2 xs ⟨p, hp, ex, eH⟩ hr' => ?_
  · rw [hb us ws hu hw]
    refine wpAny_bind (wpAny_alloc (wpAny_bind (ns_fill (ks.zip ws) { s with heap := s.heap.push { cls := .type "dict", data := .dict #[] } } [] 0 (Heap.get?_push_size _ rfl) (fun _ he => nomatch he) (fun _ he => nomatch he) (by rw [keys]; exact nd) fun h' D B => wpAny_pure ?_)))
    have kp : ∀ b x, s.heap.get? b = some x → h'.get? b = some x := fun b x e => by
      rw [B.2 b (Nat.ne_of_lt (Heap.lt_size e))]
      exact Heap.get?_push_of_some _ e
    have sz : s.heap.objs.size ≤ h'.objs.size := by
      have h1 := Heap.lt_size D
      exact Nat.le_of_lt h1
    have dd : h'.DictOf (mixKind P w) s.heap.objs.size ((ks.zip ws).map fun x => ((Sum.inr x.1 : Key), x.2)) := Heap.dictOf_iff.mpr ⟨_, D, kw_isDict _ _ (by rw [keys]; exact nd)⟩
    have new : ObjOk P w (upd H s.heap.objs.size (.dK (kwKV ks zs))) h' s.heap.objs.size (.dK (kwKV ks zs)) :=
      ⟨Nat.le_trans (by unfold kwKV; rw [List.length_zip, List.length_map]; exact Nat.le_trans (Nat.min_le_left _ _) hks) (by decide), beq_eq_false_iff_ne.mpr (Ne.symm (Nat.ne_of_lt (StX.env0_big e0))), _, kwKV_rel rz, dd⟩
    have un : Un (frs outer) [] H (upd H s.heap.objs.size (.dK (kwKV ks zs))) s.heap h' := Un.laid kp (Nat.le_refl _) hn
    have z := h _ _ (vs ++ [V.ref s.heap.objs.size]) (us ++ [Value.ref s.heap.objs.size]) (env0_made (t := s.toks + (ks.zip ws).length) e0 kp sz (Nat.le_refl _) new) un rfl (fun e s' => hCX outer s H _ _ E e s' un kp rfl) (r.append (.cons rfl .nil))
      (by rw [List.length_append, List.length_append, l1] <;> rfl) ⟨_, hn, rfl, rfl⟩
    rw [List.zip_append hu.symm] at z
    exact z
  · subst ex eH
    exact hbody cdv A outer s2 _ _ Q E hr' (hq p hp)
end
section
variable {X : Cx} {CX : CXT} {k : Nat} {f C : Addr} {fd : FuncData} {ps ks : List Str} {pd : Str} {sp : Sp} {E : L2.St → XK} {m : Str} {pos apos : Pos} {o : Expr} {kws : List Keyword} {ta : TE} {tk : TA} {pl : Sem Bool}
/-- o.m(k = v, ..), m having `**d` and no other parameter but the first -/
def tMethKw (C : Addr) (m : Str) (ks : List Str) (sp : Sp) (E : L2.St → XK) (ta : TE) (tk : TA) : TE := fun σ H Q => ta σ H fun x H1 => ∃ a dx fs, x = .ref a ∧ H1 a = some (.ins C dx fs) ∧ fs.lookup m = none ∧ tk σ H1 fun zs H2 => zs.length = ks.length ∧
  ∀ d, H2 d = none → sp [x, V.ref d] (upd H2 d (.dK (kwKV ks zs))) Q (E σ)
theorem pe_methKw {p1 : Str} (ho : PE X o ta) (hc : Cls X.K C) (hm : Meth X.K C m f) (F : FnKw X.prog X.w X.K X.mg X.base CX k f fd [p1] pd sp) (hr : Room k X.A) (hb : KwB fd [p1] pd ks) (nd : ks.Nodup) (hks : ks.length ≤ 1000) (hx : ∀ σ, PassesAt CX X σ (E σ)) (hkw : PK X kws tk)
    (hall : (backToKw pos (keywordEach kws X.env)).all (·.1.isSome) = true := by rfl) (hkn : (backToKw pos (keywordEach kws X.env)).filterMap (·.1) = ks := by rfl)
    (hpl : ((backTo pos (starEach [] X.env)).any (·.1) || (backToKw pos (keywordEach kws X.env)).any (·.1.isNone)) = false := by rfl)
    (ht : eval (.Call (.Attribute o m apos) [] kws pos) X.env = (do
      let ov ← eval o X.env
      standAt apos.atName
      let (f, first) ← holding [ov] (getMethod ov m pl)
      callWith pos f first (backTo pos (starEach [] X.env)) (backToKw pos (keywordEach kws X.env))) := by rfl) :
    PE X (.Call (.Attribute o m apos) [] kws pos) (tMethKw C m ks sp E ta tk) := by
  refine ⟨fun pins s σ H Q I h => ?_⟩
  refine PySem.W.methodCall_KW (pl := pl) (thn (ho.run pins s σ H _ I h) fun u s1 ⟨x, H1, I1, rx, a, dx, fs, ex, ea, l, q⟩ => ?_) ht
  subst ex
  obtain rfl : u = Value.ref a := rx
  refine getmeth_ok I1 ea hc hm l ?_
  refine PySem.W.callWith_KW0 (first := [.ref a]) (h₀ := X.base) I.ok.mod.kin hm.kp hall ?_ hpl
  refine thn (hkw.run pos pins s1 σ H1 _ I1 q) fun ws s2 ⟨zs, H2, I2, rz, l2, q2⟩ => ⟨I2.kIn, ?_⟩
  rw [hkn]
  refine wpAny_call (codeAny_mono (F X.A X.stack s2 H2 [.ref a] ws [V.ref a] zs ks Q (E σ) hr I2.env0 hb nd hks (.cons rfl .nil) rz rfl l2 q2) fun r s' hq => ?_)
  cases r with
  | error e => exact hx σ pins H2 s2 e s' I2 hq
  | ok fl =>
    cases fl with
    | ret u => exact I2.after hq
    | next => exact False.elim hq
    | brk => exact False.elim hq
    | cont => exact False.elim hq
theorem passesAll {E : XK} (h : Passes CX X E) : ∀ σ : L2.St, PassesAt CX X σ ((fun _ => E) σ) := fun σ pins H s e s' I q => h pins σ H s e s' I q
end
end RY

set_option maxRecDepth 100000
set_option maxHeartbeats 2000000
namespace RY
open PySem PySem.Spec PyProof.Rows L2
section
variable {P : Program} {w : World} {A : Around} {E : Value → Shared → Prop}
theorem noref {es : Array DictEntry} (hk : KeysOf (mixKind P w) es) (e : DictEntry) (he : e ∈ es) : ∃ k, (mixKind P w).is k e.key = true ∧ e.hash = (mixKind P w).hash k ∧ ∀ b, e.key ≠ .ref b := by
  obtain ⟨k, h1, h2⟩ := hk e he
  refine ⟨k, h1, h2, fun b z => ?_⟩
  rw [z] at h1
  rcases keyIs_shape h1 with ⟨i, t, _, e⟩ | ⟨y, t, _, e⟩ <;> cases e
theorem mm_run {s : Shared} {d a : Addr} {Q : Unit → Shared → Prop} {es : Array DictEntry} {ep : Nat} {o : Obj} {n0 : Nat} (hd : s.heap.get? d = some (PySem.W.dictOf [] n0)) (ha : s.heap.get? a = some o) (hc : o.cls = .type "dict") (od : o.data = .dict es ep) (ns : (a == sysModules) = false) (hk : KeysOf (mixKind P w) es) (hsz : es.size ≤ 1000) (hne : a ≠ d) 
  (hnd : ∀ (i j : Nat) (x y : DictEntry) (k : Key), es[i]? = some x → es[j]? = some y → (mixKind P w).is k x.key = true → (mixKind P w).is k y.key = true → i = j)
  (h : ∀ h' n, h'.get? d = some (PySem.W.dictOf es.toList n) → Heap.SameBut d s.heap h' → Q () { s with heap := h' }) : wpAny (model P w) A (mergeMapping d (.ref a) true) Q E s := by
  have ty : s.TypeIs (.ref a) "dict" := ⟨_, ha, hc⟩
  unfold mergeMapping
  refine wpAny_bind (wpAny_isInstance (T := "dict") (U := "dict") (b := true) ty (by kernel_rfl) ?_)
  simp only [if_true]
  refine wpAny_bind (wpAny_specialOf (T := "dict") (r := some (.builtin "dict.__iter__")) ty (by kernel_rfl) (wpAny_bind (wpAny_pure ?_)))
  have q : ((some (Value.builtin "dict.__iter__")) == some (Value.builtin "dict.__iter__")) = true := by decide
  simp only [q, ns, Bool.false_eq_true, if_false]
  refine wpAny_bind (wpAny_dictEntries hd rfl ?_)
  have hem : (#[] : Array DictEntry).isEmpty = true := rfl
  simp only [hem, if_true]
  refine wpAny_bind (wpAny_dictEntries ha od ?_)
  refine wpAny_bind ?_
  rw [← Array.forIn_toList, forIn_yield_id PUnit.unit (fun e he c => by
    obtain ⟨k, _, _, nr⟩ := noref hk e (Array.mem_toList_iff.mp he)
    cases hkey : e.key with
    | ref b => exact absurd hkey (nr b)
    | _ => rfl)]
  refine wpAny_pure ?_
  refine wpAny_bind (wpAny_dictEntries ha od ?_)
  refine wpAny_bind (wpAny_dictEpoch ha od ?_)
  refine wpAny_bind (wpAny_forIn_list _ (fun rest _ s' => ∃ i h', rest = List.range' i (es.size - i) ∧ i ≤ es.size ∧ h'.get? d = some (PySem.W.dictOf (es.toList.take i) (n0 + i)) ∧ Heap.SameBut d s.heap h' ∧ s' = { s with heap := h' }) _ ?_ ?_ _ _ ⟨0, s.heap, by rw [List.range_eq_range', Nat.sub_zero], Nat.zero_le _, hd, .refl .., rfl⟩)
  · rintro x rest b s' ⟨i, h', hr, hi, hd', hs', rfl⟩
    have hlt : i < es.size := by
      rcases Nat.lt_or_ge i es.size with h1 | h1
      · exact h1
      · rw [Nat.sub_eq_zero_of_le h1] at hr
        cases hr
    obtain ⟨m, hm⟩ : ∃ m, es.size - i = m + 1 := ⟨es.size - i - 1, by omega⟩
    rw [hm, List.range'_succ] at hr
    injection hr with hx hr
    obtain rfl := hx.symm
    have ha' : h'.get? a = some o := by rw [hs'.2 a hne]; exact ha
    refine wpAny_bind (wpAny_dictEntries (s := { s with heap := h' }) ha' od ?_)
    have hg : es[i]? = some es[i] := Array.getElem?_eq_getElem hlt
    obtain ⟨k, hk1, hk2, _⟩ := noref hk es[i] (Array.getElem_mem hlt)
    simp only [hg]
    refine wpAny_bind (wpAny_holding ?_)
    have kd : KeysOf (mixKind P w) (es.toList.take i).toArray := fun e he => hk e (Array.mem_toList_iff.mp (List.mem_of_mem_take (List.mem_toArray.mp he)))
    have nf : ((es.toList.take i).toArray.findIdx? fun e => (mixKind P w).is k e.key) = none := by
      rw [Array.findIdx?_eq_none_iff]
      intro e he
      obtain ⟨j, hj⟩ := List.mem_iff_getElem?.mp (List.mem_toArray.mp he)
      have hji : j < i := by
        have := (List.getElem?_eq_some_iff.mp hj).1
        rw [List.length_take] at this
        omega
      rw [List.getElem?_take_of_lt hji, Array.getElem?_toList] at hj
      cases z : (mixKind P w).is k e.key with
      | false => rfl
      | true => exact absurd (hnd j i e es[i] k hj hg z hk1) (Nat.ne_of_lt hji)
    rw [hk2]
    refine wpAny_bind (wpAny_dictFind_of (s := { s with heap := h' }) hk1 hd' rfl kd ?_)
    rw [nf]
    simp only [Option.isSome_none, Bool.false_eq_true, if_false]
    unfold dictPut
    refine wpAny_bind (wpAny_dictFind_of (s := { s with heap := h' }) hk1 hd' rfl kd ?_)
    rw [nf]
    simp only
    refine wpAny_updateDictKeys (s := { s with heap := h' }) hd' rfl ?_ (by show (es.toList.take i).toArray.size ≤ sizeLine; rw [List.size_toArray, List.length_take]; exact Nat.le_trans (Nat.min_le_left _ _) (Nat.le_trans (Nat.le_of_lt hlt) (Nat.le_trans hsz (by decide))))
    have hn : (h'.update d (Obj.mapDictKeys fun x => x.push ⟨(mixKind P w).hash k, es[i].key, es[i].val⟩)).get? d = some (PySem.W.dictOf (es.toList.take (i + 1)) (n0 + (i + 1))) := by
      rw [Heap.get?_update_self _ hd' rfl]
      have e1 : es.toList.take (i + 1) = es.toList.take i ++ [es[i]] := by
        rw [List.take_add_one, Array.getElem?_toList, hg]; rfl
      rw [e1]
      have e2 : es[i] = ⟨(mixKind P w).hash k, es[i].key, es[i].val⟩ := by
        rw [← hk2]
      show some (Obj.mapDictKeys _ (PySem.W.dictOf (es.toList.take i) (n0 + i))) = _
      rw [← e2]
      show some (PySem.W.dictOf ((es.toList.take i).toArray.push es[i]).toList (n0 + (i + 1))) = _
      simp
    have hs2 := hs'.trans (Heap.SameBut.update (a := d) (h := h') (f := Obj.mapDictKeys fun x => x.push ⟨(mixKind P w).hash k, es[i].key, es[i].val⟩) ..)
    have ha2 := hs2.2 a hne
    rw [ha] at ha2
    refine wpAny_bind (wpAny_dictEpoch (s := { s with heap := _ }) ha2 od ?_)
    simp only [bne_self_eq_false, Bool.false_eq_true, if_false]
    exact wpAny_pure ⟨i + 1, _, by rw [hr, show m = es.size - (i + 1) by omega], hlt, hn, hs2, rfl⟩
  · rintro b s' ⟨i, h', hr, hi, hd', hs', rfl⟩
    have hi' : i = es.size := by
      have := congrArg List.length hr
      rw [List.length_range', List.length_nil] at this
      omega
    rw [hi', List.take_of_length_le (Nat.le_of_eq Array.length_toList)] at hd'
    exact wpAny_pure (h h' _ hd' hs')
/-- the keywords of a dict whose keys are texts -/
def kwOf : List DictEntry → List (Str × Value)
  | [] => []
  | ⟨_, .str k _, v⟩ :: r => (k, v) :: kwOf r
  | _ :: r => kwOf r
theorem kwIn_run {s : Shared} {d : Addr} {f : Value} {Q : List (Str × Value) → Shared → Prop} {es : List DictEntry} {n : Nat} (hd : s.heap.get? d = some (PySem.W.dictOf es n)) (hs : ∀ e ∈ es, ∃ k t, e.key = .str k t) (h : Q (kwOf es) s) : wpAny (model P w) A (keywordsIn f d) Q E s := by
  unfold keywordsIn
  refine wpAny_bind (wpAny_dictEntries hd rfl ?_)
  refine wpAny_bind ?_
  rw [← Array.forIn_toList]
  refine wpAny_forIn_list _ (fun rest acc s' => s' = s ∧ (∀ e ∈ rest, ∃ k t, e.key = .str k t) ∧ acc ++ kwOf rest = kwOf es) _ ?_ ?_ _ _ ⟨rfl, hs, rfl⟩
  · rintro ⟨hh, key, v⟩ rest acc s' ⟨rfl, hr, he⟩
    obtain ⟨k, t, hk⟩ := hr _ (List.mem_cons_self ..)
    have hk : key = .str k t := hk
    subst hk
    refine wpAny_pure ⟨rfl, fun e hm => hr e (List.mem_cons_of_mem _ hm), ?_⟩
    rw [List.append_assoc]
    exact he
  · rintro acc s' ⟨rfl, _, he⟩
    have he : acc ++ [] = kwOf es := he
    rw [List.append_nil] at he
    rw [he]
    exact wpAny_pure h
theorem evd_run {s : Shared} {f : Value} {x : Sem Value} {Q : Args → Shared → Prop}
    (h : wpAny (model P w) A x (fun v s1 => ∃ (a : Addr) (es : Array DictEntry) (ep n0 : Nat) (o : Obj), v = .ref a ∧ s1.heap.get? s.heap.objs.size = some (PySem.W.dictOf [] n0) ∧ s1.heap.get? a = some o ∧ o.cls = .type "dict" ∧ o.data = .dict es ep ∧ (a == sysModules) = false ∧ KeysOf (mixKind P w) es ∧ es.size ≤ 1000 ∧ a ≠ s.heap.objs.size ∧
      (∀ (i j : Nat) (x y : DictEntry) (k : Key), es[i]? = some x → es[j]? = some y → (mixKind P w).is k x.key = true → (mixKind P w).is k y.key = true → i = j) ∧ (∀ e ∈ es.toList, ∃ k t, e.key = .str k t) ∧
      ∀ h' n, h'.get? s.heap.objs.size = some (PySem.W.dictOf es.toList n) → Heap.SameBut s.heap.objs.size s1.heap h' → Q ⟨[], kwOf es.toList⟩ { s1 with heap := h' }) E { s with heap := s.heap.push { cls := .type "dict", data := .dict #[] } }) : wpAny (model P w) A (evalArgs f true [] [(none, x)]) Q E s := by
  unfold evalArgs
  show wpAny _ A (spliced [] >>= _) Q E s
  refine wpAny_bind (Calls.spliced_nil ?_)
  refine wpAny_bind (wpAny_pure ?_)
  refine wpAny_holding ?_
  simp only [List.all_cons, Option.isSome_none, Bool.false_and, Bool.false_eq_true, if_false]
  unfold mergedKeywords
  refine wpAny_bind (wpAny_bind (wpAny_alloc (wpAny_bind (wpAny_holding ?_))))
  refine wpAny_bind ?_
  rw [List.forIn_cons]
  refine wpAny_bind ?_
  refine wpAny_bind (wpAny_pure ?_)
  refine wpAny_bind (wpAny_mono h (fun v s1 ⟨a, es, ep, n0, o, ev, hd, ha, hc, od, ns, hk, hz, hne, hnd, hst, hq⟩ => ?_) fun e s' z => z)
  subst ev
  refine wpAny_bind (wpAny_onRaise (wpAny_holding (wpAny_tryCatch (wpAny_onRaise (mm_run hd ha hc od ns hk hz hne hnd fun h' n hd' hs' => ?_)))))
  refine wpAny_pure ?_
  dsimp only
  rw [List.forIn_nil]
  refine wpAny_pure ?_
  refine wpAny_pure ?_
  refine wpAny_pure ?_
  refine wpAny_bind (wpAny_pure ?_)
  refine wpAny_bind (wpAny_holding (kwIn_run (s := { s1 with heap := h' }) hd' hst ?_))
  exact wpAny_pure (hq h' n hd' hs')
theorem callD {f : Value} {pos : Pos} {x : Sem Value} {Q : Value → Shared → Prop} {K : PySem.W.Frag} (hk : PySem.W.keepIn K f = true)
    (h : wpAny (model P w) A (evalArgs f true [] [(none, x)]) (fun a s₁ => K.In s₁.heap ∧ wpAny (model P w) A (call f a.pos a.kw) Q E s₁) E s) : wpAny (model P w) A (callWith pos f [] [] [(none, x)]) Q E s := by
  unfold callWith
  refine wpAny_bind (wpAny_holding (wpAny_mono h (fun a s₁ h₁ => wpAny_bind (wpAny_standAt ?_)) fun _ _ x => x))
  obtain ⟨k, hk', L⟩ := PySem.W.keeps_K (M := model P w) hk _ h₁.1
  simp only [List.any_nil, List.any_cons, Option.isNone_none, Bool.true_or, Bool.or_true]
  refine wpAny_bind (L.here ?_)
  have tail : ∀ {t : Sem Value}, wpAny (model P w) A t Q E s₁ → wpAny (model P w) A (t >>= fun r => holding [r] point >>= fun _ => pure r) Q E s₁ :=
    fun ht => wpAny_bind (wpAny_mono ht (fun r s₂ hr => wpAny_bind (wpAny_holding (wpAny_point (wpAny_pure hr)))) fun _ _ x => x)
  have h2 : wpAny (model P w) A (call f ([] ++ a.pos) a.kw) Q E s₁ := h₁.2
  have marked (mk : Value) : wpAny (model P w) A (callMarked mk f ([] ++ a.pos) a.kw) Q E s₁ := by unfold callMarked; exact Calls.wpAny_keep h2
  rcases hk' with rfl | rfl | rfl <;> dsimp only <;> first | exact tail (marked _) | exact tail (wpAny_operating h2)
end
theorem pairs_vals {P : Program} {w : World} : ∀ {es : List DictEntry} {kvs : List (Key × V)} {vs : List (Key × Value)} {ks : List Str}, Pairs (mixKind P w) es vs → KV kvs vs → kvs.map (·.1) = ks.map Sum.inr →
    (∀ e ∈ es, ∃ k t, e.key = .str k t) ∧ kwOf es = ks.zip (es.map (·.val)) ∧ Vals (kvs.map (·.2)) (es.map (·.val))
  | [], [], _, [], _, _, _ => ⟨fun _ h => (nomatch h), rfl, .nil⟩
  | [], [], _, _ :: _, _, _, h => nomatch h
  | _, p :: kvs, _, [], _, _, h => nomatch h
  | [], p :: kvs, vs, k :: ks, hp, hv, h => by
    cases hp
    cases hv
  | ⟨hh, key, v⟩ :: es, [], vs, _, hp, hv, h => by
    cases hv
    cases hp
  | ⟨hh, key, v⟩ :: es, p :: kvs, vs, k :: ks, hp, hv, h => by
    cases hv with
    | cons r t =>
      cases hp with
      | cons h1 h2 h3 =>
        obtain ⟨e1, e2⟩ := List.cons.inj h
        obtain ⟨r1, r2⟩ := r
        obtain ⟨i1, i2, i3⟩ := pairs_vals h3 t e2
        have e1 : p.1 = Sum.inr k := e1
        rw [← r1, e1] at h1
        have h1 : keyIs (Sum.inr k) key = true := h1
        rcases keyIs_shape h1 with ⟨i, t, z, _⟩ | ⟨y, t, z, e⟩
        · exact nomatch z
        · obtain rfl : k = y := Sum.inr.inj z
          have e : key = .str k t := e
          subst e
          refine ⟨fun e he => ?_, ?_, .cons ?_ i3⟩
          · rcases List.mem_cons.mp he with rfl | he
            · exact ⟨_, _, rfl⟩
            · exact i1 e he
          · show (k, v) :: kwOf es = (k, v) :: ks.zip (es.map (·.val))
            rw [i2]
          · show RelV p.2 v
            have h2 : v = _ := h2
            rw [h2]
            exact r2
section
variable {X : Cx} {CX : CXT} {k : Nat} {f C : Addr} {fd : FuncData} {ps ks : List Str} {sp : Sp} {E : XK} {x : Str} {p pos kpos : Pos} {e : Expr} {te : TE} {g : List Value → List Value → List Value} {gV : List V → List V → List V}
/-- C(**d), d a dict with text keys, in their order ks -/
def tMakeD (C : Addr) (ks : List Str) (sp : Sp) (gV : List V → List V → List V) (E : XK) (te : TE) : TE := fun σ H Q => ∀ q, H q = none → te σ (upd H q (.dK [])) fun v H1 => ∃ a kvs, v = .ref a ∧ a ≠ q ∧ H1 a = some (.dK kvs) ∧ H1 q = some (.dK []) ∧ kvs.map (·.1) = ks.map Sum.inr ∧ ks.length ≤ 1000 ∧
  ∀ x dx, (upd H1 q (.dK kvs)) x = none → (upd H1 q (.dK kvs)) dx = none → dx ≠ x → sp (gV [.ref x] (kvs.map (·.2))) (upd (upd (upd H1 q (.dK kvs)) dx (.own x)) x (.ins C dx [])) (fun v H3 => v = .non ∧ Q (.ref x) H3) E
theorem pe_makeD (M : Mk X.K C f) (F : FnOk X.prog X.w X.K X.mg X.base CX k f fd ps sp) (hr : Room (k + 1) X.A) (hg : Gl X x) (hm : X.mg x = some (.ref C)) (hb : KBn X.K fd ps 1 ks g gV) (hx : Passes CX X E) (he : PE X e te) (hdb : (x == ("__debug__" : Str)) = false := by decide)
    (hsh : backToKw pos (keywordEach [⟨none, e, kpos⟩] X.env) = [(none, (do let v ← eval e X.env; standAt pos; pure v))] := by rfl) :
    PE X (.Call (.Name x p) [] [⟨none, e, kpos⟩] pos) (tMakeD C ks sp gV E te) := by
  refine ⟨fun pins s σ H Q I h => ?_⟩
  refine wpAny_Call_Name_kw (ld_glob I hg hm ?_ hdb)
  rw [hsh]
  refine callD (K := X.K) M.kp (evd_run ?_)
  have hn : H s.heap.objs.size = none := I.hok.fresh (Nat.le_refl _)
  have big : sysModules < s.heap.objs.size := StX.env0_big I.env0
  have I1 : Inv X pins (σ) (upd H s.heap.objs.size (.dK [])) { s with heap := s.heap.push { cls := .type "dict", data := .dict #[] } } := I.laid (t' := s.toks) (fun b u q => Heap.get?_push_of_some _ q) (Nat.le_refl _) (dk_empty _ big)
  refine wpAny_bind (thn (he.run pins _ σ _ _ I1 (h _ hn)) fun v s2 ⟨y, H1, I2, ry, a, kvs, ey, hne, ha, hq, hks, hlen, hmk⟩ => wpAny_bind (wpAny_standAt (wpAny_pure ?_)))
  subst ey
  cases (show v = Value.ref a from ry)
  obtain ⟨z1, ns, vs, hkv, oa, es, ep, ea, ca, da, ka, pa, na⟩ := I2.hok a _ ha
  obtain ⟨_, _, vs0, hkv0, oq, esq, epq, eq, cq, dq, kq, pq, nq⟩ := I2.hok _ _ hq
  have nq0 : vs0 = [] := by cases hkv0; rfl
  subst nq0
  have eq0 : esq = #[] := by
    have := pq.length
    exact Array.eq_empty_of_size_eq_zero (by rw [← Array.length_toList]; exact this)
  subst eq0
  have oqe : oq = PySem.W.dictOf [] epq := by
    obtain ⟨c, dd, dt, sl⟩ := oq
    obtain ⟨c1, c2, c3⟩ := cq
    have c1 : c = .type "dict" := c1
    have c2 : dd = none := c2
    have c3 : sl = #[] := c3
    have d1 : dt = .dict #[] epq := dq
    subst c1 c2 c3 d1
    rfl
  subst oqe
  obtain ⟨st, kwe, vv⟩ := pairs_vals pa hkv hks
  have lk : kvs.length = ks.length := by
    have := congrArg List.length hks
    simpa using this
  have les : es.size = ks.length := by
    have h1 := pa.length
    have h2 := hkv.length
    rw [Array.length_toList] at h1
    omega
  refine ⟨a, es, ep, epq, oa, rfl, eq, ea, ca.1, da, ns, ka, by rw [les]; exact hlen, hne, fun i j x y k hi hj hx hy => ?_, st, fun h' n hd' hs' => ?_⟩
  · have kx : ∀ {l : List DictEntry} {us : List (Key × Value)}, Pairs (mixKind X.prog X.w) l us → ∀ (i : Nat) (x : DictEntry), l[i]? = some x → (mixKind X.prog X.w).is k x.key = true → (us.map (·.1))[i]? = some k := by
      intro l us hp
      induction hp with
      | nil => intro i x h; simp at h
      | cons h1 h2 h3 ih =>
        intro i x h hk
        cases i with
        | zero =>
          simp only [List.getElem?_cons_zero, Option.some.injEq] at h
          subst h
          simp only [List.map_cons, List.getElem?_cons_zero, Option.some.injEq]
          exact (mixKind X.prog X.w).inj _ _ _ h1 hk
        | succ i =>
          simp only [List.getElem?_cons_succ] at h
          simpa using ih i x h hk
    have k1 := kx pa i x (by rw [Array.getElem?_toList]; exact hi) hx
    have k2 := kx pa j y (by rw [Array.getElem?_toList]; exact hj) hy
    have l1 := (List.getElem?_eq_some_iff.mp k1).1
    exact (List.getElem?_inj l1 na).mp (k1.trans k2.symm)
  · have new : ObjOk X.prog X.w (upd H1 s.heap.objs.size (.dK kvs)) h' s.heap.objs.size (.dK kvs) :=
      ⟨by rw [lk]; exact Nat.le_trans hlen (by decide), beq_eq_false_iff_ne.mpr (Ne.symm (Nat.ne_of_lt big)), vs, hkv, _, es.toList.toArray, n, hd', ⟨rfl, rfl, rfl⟩, rfl, fun e he => ka e (by simpa using he), by simpa using pa, na⟩
    have I3 : Inv X pins σ (upd H1 s.heap.objs.size (.dK kvs)) { s2 with heap := h' } :=
      I2.write (t' := s2.toks) (x := s.heap.objs.size) (e := s.heap.objs.size) (by rw [hq]; exact True.intro) (.inl rfl) (fun b u hb e => by rw [hs'.2 b hb]; exact e) ⟨_, hd'⟩ new
    refine ⟨I3.kIn, ?_⟩
    rw [kwe]
    exact run_makeK (n := 0) (us := []) (vs := []) M F hr hb hx I3 .nil vv rfl (by rw [List.length_map]; exact lk) hmk
end
end RY

set_option maxRecDepth 100000
set_option maxHeartbeats 8000000
namespace K35
open PySem PySem.Spec PyProof.Rows L2
theorem names_nodup : names.Nodup := by decide +kernel
theorem put_take {kvs : List (Key × V)} (nd : (kvs.map (·.1)).Nodup) {i : Nat} {k : Key} {v : V} (h : kvs[i]? = some (k, v)) : putK (kvs.take i) k v = kvs.take (i + 1) := by
  have hn : valV (kvs.take i) k = none := by
    have e := valV_any k (kvs.take i)
    cases q : valV (kvs.take i) k with
    | none => rfl
    | some y =>
      rw [q] at e
      obtain ⟨p, hp, hk⟩ := List.any_eq_true.mp (show ((kvs.take i).any fun kv => decide (kv.1 = k)) = true from e)
      have hk := of_decide_eq_true hk
      obtain ⟨j, hj⟩ := List.mem_iff_getElem?.mp hp
      have hji : j < i := by
        have := (List.getElem?_eq_some_iff.mp hj).1
        rw [List.length_take] at this
        omega
      rw [List.getElem?_take_of_lt hji] at hj
      have e1 : (kvs.map (·.1))[j]? = some k := by rw [List.getElem?_map, hj]; exact congrArg some hk
      have e2 : (kvs.map (·.1))[i]? = some k := by rw [List.getElem?_map, h]; rfl
      exact absurd ((List.getElem?_inj (List.getElem?_eq_some_iff.mp e1).1 nd).mp (e1.trans e2.symm)) (Nat.ne_of_lt hji)
  rw [putK_new v hn, List.take_add_one, h]; rfl
theorem put_keys {kvs : List (Key × V)} {k : Key} {v : V} (h : (valV kvs k).isSome = true) : (putK kvs k v).map (·.1) = kvs.map (·.1) := by
  unfold putK
  rw [valV_any, if_pos h, List.map_map]
  refine List.map_congr_left fun p _ => ?_
  show (if p.1 = k then (p.1, v) else p).1 = p.1
  split <;> rfl
theorem put_vals {Pr : V → Prop} {kvs : List (Key × V)} {k : Key} {v : V} (h : ∀ q ∈ kvs, Pr q.2) (hv : Pr v) : ∀ q ∈ putK kvs k v, Pr q.2 := by
  unfold putK
  intro q hq
  split at hq
  · obtain ⟨p, hp, rfl⟩ := List.mem_map.mp hq
    split
    · exact hv
    · exact h p hp
  · rcases List.mem_append.mp hq with hq | hq
    · exact h q hq
    · obtain rfl := List.mem_singleton.mp hq
      exact hv
theorem val_at : ∀ {kvs : List (Key × V)} {i : Nat} {k : Key} {v : V}, (kvs.map (·.1)).Nodup → kvs[i]? = some (k, v) → valV kvs k = some v
  | [], _, _, _, _, h => nomatch h
  | p :: kvs, 0, k, v, _, h => by
    simp only [List.getElem?_cons_zero, Option.some.injEq] at h
    subst h
    exact valV_pos rfl
  | p :: kvs, i + 1, k, v, nd, h => by
    obtain ⟨n1, n2⟩ := List.nodup_cons.mp (show (p.1 :: kvs.map (·.1)).Nodup from nd)
    have h : kvs[i]? = some (k, v) := by simpa using h
    rw [valV_neg (fun e => n1 (by rw [e]; exact List.mem_map.mpr ⟨(k, v), List.mem_of_getElem? h, rfl⟩))]
    exact val_at n2 h
theorem kw_at {ks : List Str} {zs : List V} {i : Nat} {k0 : Key} {v : V} (h : (RY.kwKV ks zs)[i]? = some (k0, v)) : ∃ k, k0 = Sum.inr k ∧ (ks.zip zs)[i]? = some (k, v) := by
  unfold RY.kwKV at h
  rw [List.zip_map_left, List.getElem?_map] at h
  cases e : (ks.zip zs)[i]? with
  | none => rw [e] at h; cases h
  | some q => rw [e] at h; cases h; exact ⟨q.1, rfl, rfl⟩
theorem kw_keys {ks : List Str} {zs : List V} (h : zs.length = ks.length) : (RY.kwKV ks zs).map (·.1) = ks.map Sum.inr := List.map_fst_zip (by rw [List.length_map, h]; exact Nat.le_refl _)
theorem kw_nd {ks : List Str} {zs : List V} (h : zs.length = ks.length) (nd : ks.Nodup) : ((RY.kwKV ks zs).map (·.1)).Nodup := by
  rw [kw_keys h]
  exact nd.map _ (fun a b hab e => hab (Sum.inr.inj e))
theorem kw_vals {ks : List Str} {zs : List V} (h : zs.length = ks.length) : (RY.kwKV ks zs).map (·.2) = zs := List.map_snd_zip (by rw [List.length_map, h]; exact Nat.le_refl _)
theorem kw_len {ks : List Str} {zs : List V} (h : zs.length = ks.length) : (RY.kwKV ks zs).length = ks.length := by
  unfold RY.kwKV
  rw [List.length_zip, List.length_map, h, Nat.min_self]
/-- the told values, the changed ones put in; or the first name that is none -/
def tell (t : List (Key × V)) : List (Str × V) → Str ⊕ List (Key × V)
  | [] => .inr t
  | q :: r => if (valV t (.inr q.1)).isSome then tell (putK t (.inr q.1) q.2) r else .inl q.1
theorem tell_at {t : List (Key × V)} {ex : List (Str × V)} {i : Nat} {q : Str × V} (h : ex[i]? = some q) : tell t (ex.drop i) = if (valV t (.inr q.1)).isSome then tell (putK t (.inr q.1) q.2) (ex.drop (i + 1)) else .inl q.1 := by
  obtain ⟨h1, h2⟩ := List.getElem?_eq_some_iff.mp h
  rw [List.drop_eq_getElem_cons h1, h2]; rfl
theorem names_len : names.length = 11 := rfl
def told0 (xs : List V) : List (Key × V) := RY.kwKV names xs
section
variable {P : Program} {w : World} {K : PySem.W.Frag} {mg : Str → Option Value} {base : Heap}
theorem b_all {K : PySem.W.Frag} {f : Addr} {fd : FuncData} (F : InitD K f fd) : KBn K fd pBk 1 names (fun us ws => us ++ ws) (fun vs zs => vs ++ zs) := by
  obtain ⟨mv, h⟩ := F.kbinds0 (ps := pBk) 1 names [] (fun us mv ws => us ++ ws) (fun z => nomatch z) (fun q h => nomatch h) (fun r1 r2 r3 => r1.append r3) fun D doc pm an cdv ct us mv ws e1 e2 e3 => match us, mv, ws, e1, e2, e3 with
    | [_], [], [_, _, _, _, _, _, _, _, _, _, _], _, _, _ => by with_unfolding_all rfl
  exact h
end
end K35

set_option maxRecDepth 100000
set_option maxHeartbeats 8000000
namespace K35
open PySem PySem.Spec PyProof.Rows L2
section
variable {P : Program} {w : World} {K : PySem.W.Frag} {mg : Str → Option Value} {base : Heap}
def spChg (C CB : Addr) : Sp := fun vs H Q E => ∃ (p d : Addr) (xs : List V) (ks : List Str) (zs : List V), vs = [.ref p, .ref d] ∧ BookA C H p xs ∧ xs.length = 11 ∧ (∀ x ∈ xs, OddV H x) ∧ H d = some (.dK (RY.kwKV ks zs)) ∧ zs.length = ks.length ∧ ks.Nodup ∧ ks.length ≤ 1000 ∧ (∀ z ∈ zs, OddV H z) ∧
  (∀ k, tell (told0 xs) (ks.zip zs) = .inl k → ∀ H1 e, (∀ b o, b ≠ d → H b = some o → H1 b = some o) → H1 e = none → E (.ref CB) (some e) (upd H1 e (.xd [("field", .str k)]))) ∧
  (∀ t, tell (told0 xs) (ks.zip zs) = .inr t → (∀ k, badF 0 (t.map (·.2)) = some k → ∀ H1 e, Same H H1 → H1 e = none → E (.ref CB) (some e) (upd H1 e (.xd [("field", .str (names.getD k (Str.ofString "")))]))) ∧
    (badF 0 (t.map (·.2)) = none → ∀ H' r, Same H H' → H r = none → BookA C H' r (t.map (·.2)) → Q (.ref r) H'))
abbrev nCh : List Str := ["self", "fields", "told", "name", "value"]
abbrev pCh : List Str := ["self"]
theorem scChg : FnScope nCh (pCh ++ [("fields" : Str)]) (defScope sChg) := ⟨rfl, rfl, rfl, by decide +kernel, rfl, by decide +kernel, by decide +kernel⟩
theorem ok_chg {C CB FT fB f_init f : Addr} {mc u : Value} {fdB fd_init fd : FuncData} (B : Blt mg) (NT : BbE K mg CB fB fdB) (T : Bok K mg C FT mc u) (M : Mk K C f_init) (FI : InitD K f_init fd_init) (F : Fun K "changed" "Book.changed" sChg f fd)
    (G_init : FnOk P w K mg base (L2N.CX P w) 4 f_init fd_init pBk (spInit C CB)) : RY.FnKw P w K mg base (L2N.CX P w) 6 f fd pCh "fields" (spChg C CB) := by
  have GT : FnOk P w K mg base CX0 1 fB fdB ["self", "field"] (spEI K CB "field") := ok_BbI NT.F
  have KB := b_all FI
  refine RY.fn_kw F scChg RY.cxUpN (fun cdv A0 outer s H vs Q E hr h => ?_)
  obtain ⟨p, d, xs, ks, zs, rfl, ⟨dx, w0, hp, hw⟩, hl, ho, hd, lz, nd, lk, hz, qe, qt⟩ := h
  have hr2 : Room 2 _ := hr.mono (by decide)
  have lT : (told0 xs).length = 11 := kw_len (hl.trans names_len.symm)
  have kT : (told0 xs).map (·.1) = names.map Sum.inr := kw_keys (hl.trans names_len.symm)
  have nT : ((told0 xs).map (·.1)).Nodup := kw_nd (hl.trans names_len.symm) names_nodup
  refine ⟨_, (pss_cons (ps_set (i := 2) scChg.nd rfl (.inl rfl) pe_dnewK)
      (pss_cons (ps_for (passes_of rfl) rfl (RZ.pi_zipA (by rfl) B.zip (pa_cons (ClX.pe_cval (pe_glob (v := .ref C) (by rfl) T.mgC rfl)) (pa_cons (pe_fld (pv 0) rfl) pa_nil))) (pg_tup rfl (pgs_cons (pg_name (i := 3) scChg.nd rfl (.inl rfl)) (pgs_cons (pg_name (i := 4) scChg.nd rfl (.inl rfl)) pgs_nil)))
        (pss_one (ps_dput (hu_of hr) (pv 2) (pv 3) (pv 4) rfl)))
      (pss_cons (ps_lock (ps_for (passes_of rfl) rfl (pi_keys (pv 1)) (pg_name (i := 3) scChg.nd rfl (.inl rfl))
        (pss_cons (ps_if (pt_cmp (pc_dnotin (hu_of hr) (pv 3) (pv 2))) (pss_one (L2N.ps_raise rfl (L2N.takes_of rfl rfl rfl rfl) (RN.pmk_oexN NT.oex NT.iC NT.tI GT hr2 NT.b .nil pass0 (by rfl) NT.gC (pa_cons (pv 3) pa_nil)))) pss_nil)
        (pss_one (ps_dput (hu_of hr) (pv 2) (pv 3) (pe_dget (hu_of hr) (pv 1) (pv 3) (fun _ _ => rfl)) rfl)))))
      (pss_one (ps_ret (RY.pe_makeD M G_init hr (by rfl) T.mgC KB (L2N.passes_call (L2N.takes_of rfl rfl rfl rfl) (fun _ _ _ _ h => h)) (pv 2))))))), ?_⟩
  refine fun T0 nT0 => ?_
  have s0 := same_new nT0 (o := .dK [])
  have h0 : (upd H T0 (.dK [])) T0 = some (.dK []) := upd_same
  have npT : ∀ {b o}, H b = some o → b ≠ T0 := fun {b o} e => ne_of_none e nT0
  generalize upd H T0 (.dK []) = H0 at s0 h0 ⊢
  refine ⟨C, mc, .ref FT, u, rfl, T.rd, T.fl, .ref p, rfl, p, C, dx, _, .ref w0, rfl, s0 _ _ hp, T.cl, T.n_worths, lkW hl w0, FT, w0, names.map V.str, xs, rfl, .inr ⟨T.ft H0, SqT.of (s0 _ _ hw), ?_⟩⟩
  refine RZ.for_zipT (K := K) (a := FT) (b := w0) (xs := names.map V.str) (ys := xs) (by rw [List.length_map, hl]; rfl) (fun i σ H' => ∃ y3 y4 : Option V, σ = [some (.ref p), some (.ref d), some (.ref T0), y3, y4] ∧ Same H H' ∧ H' T0 = some (.dK ((told0 xs).take i))) ⟨none, none, rfl, s0, h0⟩ (fun i σ H' ⟨_, _, _, sm, _⟩ => ⟨T.ft H', SqT.of (sm _ _ hw)⟩) ?_ ?_
  · rintro i x y T1 σ H2 hx hy ⟨y3, y4, rfl, sm, hT⟩ nT1
    rw [List.getElem?_map] at hx
    obtain ⟨nm, hn, rfl⟩ := Option.map_eq_some_iff.mp hx
    have sT := same_new nT1 (o := .tup [.str nm, y])
    refine ⟨T1, _, rfl, SqT.of upd_same, rfl, _, _, rfl, _, _, rfl, rfl, ?_⟩
    have hT1 := sT _ _ hT
    have sm1 := sm.trans sT
    generalize upd H2 T1 (.tup [.str nm, y]) = H3 at hT1 sm1 ⊢
    have hat : (told0 xs)[i]? = some (Sum.inr nm, y) := by
      unfold told0 RY.kwKV
      rw [List.zip_map_left, List.getElem?_map, (List.getElem?_zip_eq_some (z := (nm, y))).mpr ⟨hn, hy⟩]; rfl
    refine ⟨y, rfl, .ref T0, rfl, .str nm, rfl, T0, _, rfl, DPut.k (k := Sum.inr nm) hT1 (by rw [List.length_take, lT]; exact small1000 (by omega)), _, _, rfl, fun b o e => ?_, ?_⟩
    · rw [upd_ne (npT e)]; exact sm1 _ _ e
    · rw [upd_same, put_take nT hat]
  · rintro σ H2 ⟨y3, y4, rfl, sm, hT⟩
    rw [List.length_map, names_len, List.take_of_length_le (by rw [lT]; exact Nat.le_refl _)] at hT
    have hd2 := sm _ _ hd
    have hTd : T0 ≠ d := fun e => npT hd e.symm
    refine ⟨d, .dK (RY.kwKV ks zs), hd2, True.intro, fun od => ?_⟩
    have hfz : (upd H2 d (.frz od (.dK (RY.kwKV ks zs)))) d = some (.frz od (.dK (RY.kwKV ks zs))) := upd_same
    refine ⟨.ref d, rfl, d, od, rfl, .inl ⟨RY.kwKV ks zs, hfz, ?_⟩⟩
    refine for_it walk_keys (fun i σ H' => ∃ (y3 y4 : Option V) (t : List (Key × V)), σ = [some (.ref p), some (.ref d), some (.ref T0), y3, y4] ∧ H' d = some (.frz od (.dK (RY.kwKV ks zs))) ∧ (∀ b o, b ≠ d → H b = some o → H' b = some o) ∧ H' T0 = some (.dK t) ∧ t.map (·.1) = names.map Sum.inr ∧ (∀ q ∈ t, OddV H q.2) ∧ tell (told0 xs) (ks.zip zs) = tell t ((ks.zip zs).drop i))
      ⟨_, _, told0 xs, rfl, hfz, fun b o hne e => by rw [upd_ne hne]; exact sm _ _ e, by rw [upd_ne hTd]; exact hT, kT, fun q hq => ho q.2 (List.of_mem_zip hq).2, rfl⟩ (fun i σ H' _ ⟨_, _, _, _, e, _⟩ => e) ?_ ?_
    · rintro i x σ H3 H4 hi ⟨y3, y4, t, rfl, hf, sm3, hT3, kt, ot, ht⟩ ⟨rfl, k0, v, hk, rfl⟩
      obtain ⟨k, rfl, hat⟩ := kw_at hk
      rw [tell_at hat] at ht
      refine ⟨.str k, rfl, .ref T0, rfl, T0, _, rfl, DGet.k (k := Sum.inr k) hT3, _, rfl, ?_⟩
      cases hv : valV t (Sum.inr k) with
      | none =>
        rw [hv] at ht
        exact iteT ⟨.str k, rfl, raise_err NT.oex NT.fp fun e he => qe k ht _ e sm3 he⟩
      | some v0 =>
        rw [hv] at ht
        refine iteF ⟨.ref d, rfl, .str k, rfl, d, v, rfl, .inl ⟨_, Sum.inr k, .inr ⟨od, hf⟩, rfl, (val_at (kw_nd lz nd) hk).symm⟩, .ref T0, rfl, .str k, rfl, T0, _, rfl, DPut.k (k := Sum.inr k) hT3 ?_, _, _, _, rfl, ?_, fun b o hne e => ?_, upd_same, ?_, put_vals ot (hz v (List.of_mem_zip (List.mem_of_getElem? hat)).2), ht⟩
        · have := congrArg List.length kt
          rw [List.length_map, List.length_map, names_len] at this
          exact small1000 (by omega)
        · rw [upd_ne (Ne.symm hTd)]; exact hf
        · rw [upd_ne (npT e)]; exact sm3 _ _ hne e
        · rw [put_keys (by rw [hv]; rfl)]; exact kt
    · rintro σ H3 ⟨y3, y4, t, rfl, hf, sm3, hT3, kt, ot, ht⟩
      rw [List.drop_eq_nil_of_le (by rw [kw_len lz, List.length_zip]; omega)] at ht
      obtain ⟨q1, q2⟩ := qt t ht
      refine ⟨hf, ?_⟩
      have sH : Same H (upd H3 d (.dK (RY.kwKV ks zs))) := fun b o e => by
        by_cases hb : b = d
        · subst hb; rw [upd_same, ← hd, e]
        · rw [upd_ne hb]; exact sm3 _ _ hb e
      have hT4 : (upd H3 d (.dK (RY.kwKV ks zs))) T0 = some (.dK t) := by rw [upd_ne hTd]; exact hT3
      generalize upd H3 d (.dK (RY.kwKV ks zs)) = H5 at sH hT4 ⊢
      refine fun q nq => ?_
      have hl2 : (t.map (·.2)).length = 11 := by
        have := congrArg List.length kt
        rw [List.length_map, List.length_map, names_len] at this
        rw [List.length_map, this]
      have ho2 : ∀ z ∈ t.map (·.2), OddV H z := fun z hz => by
        obtain ⟨q, hq, rfl⟩ := List.mem_map.mp hz
        exact ot q hq
      generalize htv : t.map (·.2) = tv at q1 q2 hl2 ho2
      have sQ : Same H5 (upd H5 q (.dK [])) := same_new nq
      have nqT : T0 ≠ q := ne_of_none hT4 nq
      refine ⟨.ref T0, rfl, T0, t, rfl, nqT, sQ _ _ hT4, upd_same, kt, by decide, ?_⟩
      rw [upd_upd]
      have s6 : Same H5 (upd H5 q (.dK t)) := same_new nq
      have s7 := sH.trans s6
      refine fun x dx' nx ndx hne => ?_
      obtain ⟨z0, z1, z2, z3, z4, z5, z6, z7, z8, z9, z10, rfl⟩ := len11 hl2
      rw [htv]
      have sM : Same (upd H5 q (.dK t)) (upd (upd (upd H5 q (.dK t)) dx' (.own x)) x (.ins C dx' [])) := made_up nx ndx
      exact ⟨x, dx', z0, z1, z2, z3, z4, z5, z6, z7, z8, z9, z10, rfl, upd_same, fun z hz => (ho2 z hz).same (s7.trans sM), fun k hb H1 e hk he => q1 k hb H1 e (s7.trans (made_same nx ndx hk)) he, fun hb H1 hk hB => ⟨rfl, q2 hb H1 x (s7.trans (made_same nx ndx hk)) (s7.free nx) hB⟩⟩
end
end K35

set_option maxRecDepth 100000
set_option maxHeartbeats 8000000
namespace K35
open PySem PySem.Spec PyProof.Rows L2
section
variable {K : PySem.W.Frag}
theorem kb_0 {f : Addr} {fd : FuncData} (F : Fun K "changed" "Book.changed" sChg f fd) : RY.KwB fd pCh "fields" ["room"] := by
  obtain ⟨oc, od, kV, doc, pm, an, cdv, ct, osl, rfl, lk, hcd⟩ := F.ex
  exact fun us ws h1 h2 => match us, ws, h1, h2 with
    | [_], [_], _, _ => by with_unfolding_all rfl
theorem kb_1 {f : Addr} {fd : FuncData} (F : Fun K "changed" "Book.changed" sChg f fd) : RY.KwB fd pCh "fields" ["height"] := by
  obtain ⟨oc, od, kV, doc, pm, an, cdv, ct, osl, rfl, lk, hcd⟩ := F.ex
  exact fun us ws h1 h2 => match us, ws, h1, h2 with
    | [_], [_], _, _ => by with_unfolding_all rfl
theorem kb_2 {f : Addr} {fd : FuncData} (F : Fun K "changed" "Book.changed" sChg f fd) : RY.KwB fd pCh "fields" ["joint"] := by
  obtain ⟨oc, od, kV, doc, pm, an, cdv, ct, osl, rfl, lk, hcd⟩ := F.ex
  exact fun us ws h1 h2 => match us, ws, h1, h2 with
    | [_], [_], _, _ => by with_unfolding_all rfl
theorem kb_3 {f : Addr} {fd : FuncData} (F : Fun K "changed" "Book.changed" sChg f fd) : RY.KwB fd pCh "fields" ["over"] := by
  obtain ⟨oc, od, kV, doc, pm, an, cdv, ct, osl, rfl, lk, hcd⟩ := F.ex
  exact fun us ws h1 h2 => match us, ws, h1, h2 with
    | [_], [_], _, _ => by with_unfolding_all rfl
theorem kb_4 {f : Addr} {fd : FuncData} (F : Fun K "changed" "Book.changed" sChg f fd) : RY.KwB fd pCh "fields" ["keep"] := by
  obtain ⟨oc, od, kV, doc, pm, an, cdv, ct, osl, rfl, lk, hcd⟩ := F.ex
  exact fun us ws h1 h2 => match us, ws, h1, h2 with
    | [_], [_], _, _ => by with_unfolding_all rfl
theorem kb_5 {f : Addr} {fd : FuncData} (F : Fun K "changed" "Book.changed" sChg f fd) : RY.KwB fd pCh "fields" ["orphan"] := by
  obtain ⟨oc, od, kV, doc, pm, an, cdv, ct, osl, rfl, lk, hcd⟩ := F.ex
  exact fun us ws h1 h2 => match us, ws, h1, h2 with
    | [_], [_], _, _ => by with_unfolding_all rfl
theorem kb_6 {f : Addr} {fd : FuncData} (F : Fun K "changed" "Book.changed" sChg f fd) : RY.KwB fd pCh "fields" ["widow"] := by
  obtain ⟨oc, od, kV, doc, pm, an, cdv, ct, osl, rfl, lk, hcd⟩ := F.ex
  exact fun us ws h1 h2 => match us, ws, h1, h2 with
    | [_], [_], _, _ => by with_unfolding_all rfl
theorem kb_7 {f : Addr} {fd : FuncData} (F : Fun K "changed" "Book.changed" sChg f fd) : RY.KwB fd pCh "fields" ["wait"] := by
  obtain ⟨oc, od, kV, doc, pm, an, cdv, ct, osl, rfl, lk, hcd⟩ := F.ex
  exact fun us ws h1 h2 => match us, ws, h1, h2 with
    | [_], [_], _, _ => by with_unfolding_all rfl
theorem kb_8 {f : Addr} {fd : FuncData} (F : Fun K "changed" "Book.changed" sChg f fd) : RY.KwB fd pCh "fields" ["columns"] := by
  obtain ⟨oc, od, kV, doc, pm, an, cdv, ct, osl, rfl, lk, hcd⟩ := F.ex
  exact fun us ws h1 h2 => match us, ws, h1, h2 with
    | [_], [_], _, _ => by with_unfolding_all rfl
theorem kb_9 {f : Addr} {fd : FuncData} (F : Fun K "changed" "Book.changed" sChg f fd) : RY.KwB fd pCh "fields" ["gutter"] := by
  obtain ⟨oc, od, kV, doc, pm, an, cdv, ct, osl, rfl, lk, hcd⟩ := F.ex
  exact fun us ws h1 h2 => match us, ws, h1, h2 with
    | [_], [_], _, _ => by with_unfolding_all rfl
theorem kb_10 {f : Addr} {fd : FuncData} (F : Fun K "changed" "Book.changed" sChg f fd) : RY.KwB fd pCh "fields" ["full"] := by
  obtain ⟨oc, od, kV, doc, pm, an, cdv, ct, osl, rfl, lk, hcd⟩ := F.ex
  exact fun us ws h1 h2 => match us, ws, h1, h2 with
    | [_], [_], _, _ => by with_unfolding_all rfl
theorem kb_11 {f : Addr} {fd : FuncData} (F : Fun K "changed" "Book.changed" sChg f fd) : RY.KwB fd pCh "fields" ["gutter", "room", "wait"] := by
  obtain ⟨oc, od, kV, doc, pm, an, cdv, ct, osl, rfl, lk, hcd⟩ := F.ex
  exact fun us ws h1 h2 => match us, ws, h1, h2 with
    | [_], [_, _, _], _, _ => by with_unfolding_all rfl
theorem kb_12 {f : Addr} {fd : FuncData} (F : Fun K "changed" "Book.changed" sChg f fd) : RY.KwB fd pCh "fields" ["full", "over"] := by
  obtain ⟨oc, od, kV, doc, pm, an, cdv, ct, osl, rfl, lk, hcd⟩ := F.ex
  exact fun us ws h1 h2 => match us, ws, h1, h2 with
    | [_], [_, _], _, _ => by with_unfolding_all rfl
theorem kb_13 {f : Addr} {fd : FuncData} (F : Fun K "changed" "Book.changed" sChg f fd) : RY.KwB fd pCh "fields" ["columns", "height", "keep", "joint"] := by
  obtain ⟨oc, od, kV, doc, pm, an, cdv, ct, osl, rfl, lk, hcd⟩ := F.ex
  exact fun us ws h1 h2 => match us, ws, h1, h2 with
    | [_], [_, _, _, _], _, _ => by with_unfolding_all rfl
theorem kb_14 {f : Addr} {fd : FuncData} (F : Fun K "changed" "Book.changed" sChg f fd) : RY.KwB fd pCh "fields" ["widow", "orphan", "full"] := by
  obtain ⟨oc, od, kV, doc, pm, an, cdv, ct, osl, rfl, lk, hcd⟩ := F.ex
  exact fun us ws h1 h2 => match us, ws, h1, h2 with
    | [_], [_, _, _], _, _ => by with_unfolding_all rfl
theorem kb_15 {f : Addr} {fd : FuncData} (F : Fun K "changed" "Book.changed" sChg f fd) : RY.KwB fd pCh "fields" [] := by
  obtain ⟨oc, od, kV, doc, pm, an, cdv, ct, osl, rfl, lk, hcd⟩ := F.ex
  exact fun us ws h1 h2 => match us, ws, h1, h2 with
    | [_], [], _, _ => by with_unfolding_all rfl
theorem kb_16 {f : Addr} {fd : FuncData} (F : Fun K "changed" "Book.changed" sChg f fd) : RY.KwB fd pCh "fields" ["zoom"] := by
  obtain ⟨oc, od, kV, doc, pm, an, cdv, ct, osl, rfl, lk, hcd⟩ := F.ex
  exact fun us ws h1 h2 => match us, ws, h1, h2 with
    | [_], [_], _, _ => by with_unfolding_all rfl
theorem kb_17 {f : Addr} {fd : FuncData} (F : Fun K "changed" "Book.changed" sChg f fd) : RY.KwB fd pCh "fields" ["room", "zoom", "spread"] := by
  obtain ⟨oc, od, kV, doc, pm, an, cdv, ct, osl, rfl, lk, hcd⟩ := F.ex
  exact fun us ws h1 h2 => match us, ws, h1, h2 with
    | [_], [_, _, _], _, _ => by with_unfolding_all rfl
theorem kb_18 {f : Addr} {fd : FuncData} (F : Fun K "changed" "Book.changed" sChg f fd) : RY.KwB fd pCh "fields" ["spread", "full", "zoom"] := by
  obtain ⟨oc, od, kV, doc, pm, an, cdv, ct, osl, rfl, lk, hcd⟩ := F.ex
  exact fun us ws h1 h2 => match us, ws, h1, h2 with
    | [_], [_, _, _], _, _ => by with_unfolding_all rfl
theorem kb_19 {f : Addr} {fd : FuncData} (F : Fun K "changed" "Book.changed" sChg f fd) : RY.KwB fd pCh "fields" ["rooms", "room"] := by
  obtain ⟨oc, od, kV, doc, pm, an, cdv, ct, osl, rfl, lk, hcd⟩ := F.ex
  exact fun us ws h1 h2 => match us, ws, h1, h2 with
    | [_], [_, _], _, _ => by with_unfolding_all rfl
theorem kb_20 {f : Addr} {fd : FuncData} (F : Fun K "changed" "Book.changed" sChg f fd) : RY.KwB fd pCh "fields" ["gutter", "columns", "zoom"] := by
  obtain ⟨oc, od, kV, doc, pm, an, cdv, ct, osl, rfl, lk, hcd⟩ := F.ex
  exact fun us ws h1 h2 => match us, ws, h1, h2 with
    | [_], [_, _, _], _, _ => by with_unfolding_all rfl
end
end K35

set_option maxRecDepth 100000
set_option maxHeartbeats 8000000
namespace K35
open PySem PySem.Spec PyProof.Rows L2
theorem tl_0 (x0 x1 x2 x3 x4 x5 x6 x7 x8 x9 x10 v : V) : tell (told0 [x0, x1, x2, x3, x4, x5, x6, x7, x8, x9, x10]) [("room", v)] = .inr (told0 [v, x1, x2, x3, x4, x5, x6, x7, x8, x9, x10]) := by with_unfolding_all rfl
theorem tl_1 (x0 x1 x2 x3 x4 x5 x6 x7 x8 x9 x10 v : V) : tell (told0 [x0, x1, x2, x3, x4, x5, x6, x7, x8, x9, x10]) [("height", v)] = .inr (told0 [x0, v, x2, x3, x4, x5, x6, x7, x8, x9, x10]) := by with_unfolding_all rfl
theorem tl_2 (x0 x1 x2 x3 x4 x5 x6 x7 x8 x9 x10 v : V) : tell (told0 [x0, x1, x2, x3, x4, x5, x6, x7, x8, x9, x10]) [("joint", v)] = .inr (told0 [x0, x1, v, x3, x4, x5, x6, x7, x8, x9, x10]) := by with_unfolding_all rfl
theorem tl_3 (x0 x1 x2 x3 x4 x5 x6 x7 x8 x9 x10 v : V) : tell (told0 [x0, x1, x2, x3, x4, x5, x6, x7, x8, x9, x10]) [("over", v)] = .inr (told0 [x0, x1, x2, v, x4, x5, x6, x7, x8, x9, x10]) := by with_unfolding_all rfl
theorem tl_4 (x0 x1 x2 x3 x4 x5 x6 x7 x8 x9 x10 v : V) : tell (told0 [x0, x1, x2, x3, x4, x5, x6, x7, x8, x9, x10]) [("keep", v)] = .inr (told0 [x0, x1, x2, x3, v, x5, x6, x7, x8, x9, x10]) := by with_unfolding_all rfl
theorem tl_5 (x0 x1 x2 x3 x4 x5 x6 x7 x8 x9 x10 v : V) : tell (told0 [x0, x1, x2, x3, x4, x5, x6, x7, x8, x9, x10]) [("orphan", v)] = .inr (told0 [x0, x1, x2, x3, x4, v, x6, x7, x8, x9, x10]) := by with_unfolding_all rfl
theorem tl_6 (x0 x1 x2 x3 x4 x5 x6 x7 x8 x9 x10 v : V) : tell (told0 [x0, x1, x2, x3, x4, x5, x6, x7, x8, x9, x10]) [("widow", v)] = .inr (told0 [x0, x1, x2, x3, x4, x5, v, x7, x8, x9, x10]) := by with_unfolding_all rfl
theorem tl_7 (x0 x1 x2 x3 x4 x5 x6 x7 x8 x9 x10 v : V) : tell (told0 [x0, x1, x2, x3, x4, x5, x6, x7, x8, x9, x10]) [("wait", v)] = .inr (told0 [x0, x1, x2, x3, x4, x5, x6, v, x8, x9, x10]) := by with_unfolding_all rfl
theorem tl_8 (x0 x1 x2 x3 x4 x5 x6 x7 x8 x9 x10 v : V) : tell (told0 [x0, x1, x2, x3, x4, x5, x6, x7, x8, x9, x10]) [("columns", v)] = .inr (told0 [x0, x1, x2, x3, x4, x5, x6, x7, v, x9, x10]) := by with_unfolding_all rfl
theorem tl_9 (x0 x1 x2 x3 x4 x5 x6 x7 x8 x9 x10 v : V) : tell (told0 [x0, x1, x2, x3, x4, x5, x6, x7, x8, x9, x10]) [("gutter", v)] = .inr (told0 [x0, x1, x2, x3, x4, x5, x6, x7, x8, v, x10]) := by with_unfolding_all rfl
theorem tl_10 (x0 x1 x2 x3 x4 x5 x6 x7 x8 x9 x10 v : V) : tell (told0 [x0, x1, x2, x3, x4, x5, x6, x7, x8, x9, x10]) [("full", v)] = .inr (told0 [x0, x1, x2, x3, x4, x5, x6, x7, x8, x9, v]) := by with_unfolding_all rfl
theorem tl_11 (x0 x1 x2 x3 x4 x5 x6 x7 x8 x9 x10 y9 y0 y7 : V) : tell (told0 [x0, x1, x2, x3, x4, x5, x6, x7, x8, x9, x10]) [("gutter", y9), ("room", y0), ("wait", y7)] = .inr (told0 [y0, x1, x2, x3, x4, x5, x6, y7, x8, y9, x10]) := by with_unfolding_all rfl
theorem tl_12 (x0 x1 x2 x3 x4 x5 x6 x7 x8 x9 x10 y10 y3 : V) : tell (told0 [x0, x1, x2, x3, x4, x5, x6, x7, x8, x9, x10]) [("full", y10), ("over", y3)] = .inr (told0 [x0, x1, x2, y3, x4, x5, x6, x7, x8, x9, y10]) := by with_unfolding_all rfl
theorem tl_13 (x0 x1 x2 x3 x4 x5 x6 x7 x8 x9 x10 y8 y1 y4 y2 : V) : tell (told0 [x0, x1, x2, x3, x4, x5, x6, x7, x8, x9, x10]) [("columns", y8), ("height", y1), ("keep", y4), ("joint", y2)] = .inr (told0 [x0, y1, y2, x3, y4, x5, x6, x7, y8, x9, x10]) := by with_unfolding_all rfl
theorem tl_14 (x0 x1 x2 x3 x4 x5 x6 x7 x8 x9 x10 y6 y5 y10 : V) : tell (told0 [x0, x1, x2, x3, x4, x5, x6, x7, x8, x9, x10]) [("widow", y6), ("orphan", y5), ("full", y10)] = .inr (told0 [x0, x1, x2, x3, x4, y5, y6, x7, x8, x9, y10]) := by with_unfolding_all rfl
theorem tl_15 (x0 x1 x2 x3 x4 x5 x6 x7 x8 x9 x10 : V) : tell (told0 [x0, x1, x2, x3, x4, x5, x6, x7, x8, x9, x10]) [] = .inr (told0 [x0, x1, x2, x3, x4, x5, x6, x7, x8, x9, x10]) := by with_unfolding_all rfl
theorem tl_16 (x0 x1 x2 x3 x4 x5 x6 x7 x8 x9 x10 a0 : V) : tell (told0 [x0, x1, x2, x3, x4, x5, x6, x7, x8, x9, x10]) [("zoom", a0)] = .inl "zoom" := by with_unfolding_all rfl
theorem tl_17 (x0 x1 x2 x3 x4 x5 x6 x7 x8 x9 x10 a0 a1 a2 : V) : tell (told0 [x0, x1, x2, x3, x4, x5, x6, x7, x8, x9, x10]) [("room", a0), ("zoom", a1), ("spread", a2)] = .inl "zoom" := by with_unfolding_all rfl
theorem tl_18 (x0 x1 x2 x3 x4 x5 x6 x7 x8 x9 x10 a0 a1 a2 : V) : tell (told0 [x0, x1, x2, x3, x4, x5, x6, x7, x8, x9, x10]) [("spread", a0), ("full", a1), ("zoom", a2)] = .inl "spread" := by with_unfolding_all rfl
theorem tl_19 (x0 x1 x2 x3 x4 x5 x6 x7 x8 x9 x10 a0 a1 : V) : tell (told0 [x0, x1, x2, x3, x4, x5, x6, x7, x8, x9, x10]) [("rooms", a0), ("room", a1)] = .inl "rooms" := by with_unfolding_all rfl
theorem tl_20 (x0 x1 x2 x3 x4 x5 x6 x7 x8 x9 x10 a0 a1 a2 : V) : tell (told0 [x0, x1, x2, x3, x4, x5, x6, x7, x8, x9, x10]) [("gutter", a0), ("columns", a1), ("zoom", a2)] = .inl "zoom" := by with_unfolding_all rfl
theorem told_vals {ys : List V} (h : ys.length = 11) : (told0 ys).map (·.2) = ys := kw_vals (h.trans names_len.symm)
theorem but_same {H H1 : Hp} {d : Addr} {o : HO} (nd : H d = none) (s : ∀ b u, b ≠ d → upd H d o b = some u → H1 b = some u) : Same H H1 := fun b u e => s b u (ne_of_none e nd) (by rw [upd_ne (ne_of_none e nd)]; exact e)
theorem up_same {H H1 : Hp} {d : Addr} {o : HO} (nd : H d = none) (s : Same (upd H d o) H1) : Same H H1 := fun b u e => s b u (by rw [upd_ne (ne_of_none e nd)]; exact e)
theorem chg_ok {C CB p d : Addr} {xs zs ys : List V} {ks : List Str} {H : Hp} {Q : VK} {E : XK} (ht : tell (told0 xs) (ks.zip zs) = .inr (told0 ys)) (ly : ys.length = 11) (hB : BookA C H p xs) (hl : xs.length = 11) (ho : ∀ x ∈ xs, OddV H x) (lz : zs.length = ks.length) (nd : ks.Nodup) (lk : ks.length ≤ 1000) (hz : ∀ z ∈ zs, OddV H z) (hd : H d = none)
    (qe : ∀ j, badF 0 ys = some j → ∀ H1 e, Same H H1 → H1 e = none → E (.ref CB) (some e) (upd H1 e (.xd [("field", .str (names.getD j (Str.ofString "")))])))
    (q : badF 0 ys = none → ∀ H' r, Same H H' → H r = none → BookA C H' r ys → Q (.ref r) H') : spChg C CB [.ref p, .ref d] (upd H d (.dK (RY.kwKV ks zs))) Q E := by
  have s0 : Same H (upd H d (.dK (RY.kwKV ks zs))) := same_new hd
  refine ⟨p, d, xs, ks, zs, rfl, hB.same s0, hl, fun x hx => (ho x hx).same s0, upd_same, lz, nd, lk, fun z hz' => (hz z hz').same s0, fun k e => ?_, fun t e => ?_⟩
  · rw [ht] at e; cases e
  · rw [ht] at e; cases e
    rw [told_vals ly]
    exact ⟨fun j hj H1 e s he => qe j hj H1 e (up_same hd s) he, fun hb H' r s hr hB' => q hb H' r (up_same hd s) (by
      cases c : H r with
      | none => rfl
      | some o => rw [s0 r o c] at hr; cases hr) hB'⟩
theorem chg_no {C CB p d : Addr} {xs zs : List V} {ks : List Str} {k : Str} {H : Hp} {Q : VK} {E : XK} (ht : tell (told0 xs) (ks.zip zs) = .inl k) (hB : BookA C H p xs) (hl : xs.length = 11) (ho : ∀ x ∈ xs, OddV H x) (lz : zs.length = ks.length) (nd : ks.Nodup) (lk : ks.length ≤ 1000) (hz : ∀ z ∈ zs, OddV H z) (hd : H d = none)
    (qe : ∀ H1 e, Same H H1 → H1 e = none → E (.ref CB) (some e) (upd H1 e (.xd [("field", .str k)]))) : spChg C CB [.ref p, .ref d] (upd H d (.dK (RY.kwKV ks zs))) Q E := by
  have s0 : Same H (upd H d (.dK (RY.kwKV ks zs))) := same_new hd
  refine ⟨p, d, xs, ks, zs, rfl, hB.same s0, hl, fun x hx => (ho x hx).same s0, upd_same, lz, nd, lk, fun z hz' => (hz z hz').same s0, fun k' e => ?_, fun t e => ?_⟩
  · rw [ht] at e; cases e
    exact fun H1 e s he => qe H1 e (but_same hd s) he
  · rw [ht] at e; cases e
theorem lkC {xs : List V} (h : xs.length = 11) (w : Addr) : (fsB xs w).lookup ("changed" : Str) = none := by
  obtain ⟨x0, x1, x2, x3, x4, x5, x6, x7, x8, x9, x10, rfl⟩ := len11 h
  rfl
section
variable {P : Program} {w : World} {K : PySem.W.Frag} {mg : Str → Option Value} {base : Heap}
/-! ### _law_one_changed -/
def spOne (C CB : Addr) : Sp := fun vs H Q E => ∃ (p : Addr) (xs : List V) (k : Nat) (v : V), vs = [.ref p, .int (k : Int), v] ∧ k ≤ 10 ∧ BookA C H p xs ∧ xs.length = 11 ∧ (∀ x ∈ xs, OddV H x) ∧ OddV H v ∧
  (∀ j, badF 0 (xs.set k v) = some j → ∀ H1 e, Same H H1 → H1 e = none → E (.ref CB) (some e) (upd H1 e (.xd [("field", .str (names.getD j (Str.ofString "")))]))) ∧
  (badF 0 (xs.set k v) = none → ∀ H' r, Same H H' → H r = none → BookA C H' r (xs.set k v) → Q (.ref r) H')
abbrev pOn : List Str := ["_law_book_here", "_law_k", "_law_value"]
theorem scOne : FnScope pOn pOn (defScope sOneC) := ⟨rfl, rfl, rfl, by decide +kernel, rfl, by decide +kernel, by decide +kernel⟩
theorem ok_one {C CB FT f_chg f : Addr} {mc u : Value} {fd_chg fd : FuncData} (T : Bok K mg C FT mc u) (F_chg : Fun K "changed" "Book.changed" sChg f_chg fd_chg) (m_chg : Meth K C "changed" f_chg) (G_chg : RY.FnKw P w K mg base (L2N.CX P w) 6 f_chg fd_chg pCh "fields" (spChg C CB))
    (F : Fun K "_law_one_changed" "_law_one_changed" sOneC f fd) : FnOk P w K mg base (L2N.CX P w) 7 f fd pOn (spOne C CB) := by
  refine RN.okXN F scOne (fun vs H Q E h => ?_) (fun cdv A0 outer s H vs Q E hr h => ?_)
  · obtain ⟨p, xs, k, v, rfl, _⟩ := h; rfl
  · obtain ⟨p, xs, k, v, rfl, hk, hB, hl, ho, hv, qe, q⟩ := h
    obtain ⟨dx, w0, hp, hw⟩ := id hB
    have hz : ∀ z ∈ [v], OddV H z := fun z hz => by rw [List.mem_singleton.mp hz]; exact hv
    have lkc := lkC hl w0
    obtain ⟨x0, x1, x2, x3, x4, x5, x6, x7, x8, x9, x10, rfl⟩ := len11 hl
    refine ⟨_, (pss_cons (ps_if (pt_cmpR op_eq (pv 1) pe_int (nomark _))
      (pss_one (ps_ret (RY.pe_methKw (E := fun _ => E) (pv 0) T.cl m_chg G_chg hr (kb_0 F_chg) (by decide +kernel) (by decide) (RY.passesAll (L2N.passes_call (L2N.takes_of rfl rfl rfl rfl) (fun _ _ _ _ h => h))) (pk_cons (pv 2) pk_nil))))
      pss_nil)
      (pss_cons (ps_if (pt_cmpR op_eq (pv 1) pe_int (nomark _))
      (pss_one (ps_ret (RY.pe_methKw (E := fun _ => E) (pv 0) T.cl m_chg G_chg hr (kb_1 F_chg) (by decide +kernel) (by decide) (RY.passesAll (L2N.passes_call (L2N.takes_of rfl rfl rfl rfl) (fun _ _ _ _ h => h))) (pk_cons (pv 2) pk_nil))))
      pss_nil)
      (pss_cons (ps_if (pt_cmpR op_eq (pv 1) pe_int (nomark _))
      (pss_one (ps_ret (RY.pe_methKw (E := fun _ => E) (pv 0) T.cl m_chg G_chg hr (kb_2 F_chg) (by decide +kernel) (by decide) (RY.passesAll (L2N.passes_call (L2N.takes_of rfl rfl rfl rfl) (fun _ _ _ _ h => h))) (pk_cons (pv 2) pk_nil))))
      pss_nil)
      (pss_cons (ps_if (pt_cmpR op_eq (pv 1) pe_int (nomark _))
      (pss_one (ps_ret (RY.pe_methKw (E := fun _ => E) (pv 0) T.cl m_chg G_chg hr (kb_3 F_chg) (by decide +kernel) (by decide) (RY.passesAll (L2N.passes_call (L2N.takes_of rfl rfl rfl rfl) (fun _ _ _ _ h => h))) (pk_cons (pv 2) pk_nil))))
      pss_nil)
      (pss_cons (ps_if (pt_cmpR op_eq (pv 1) pe_int (nomark _))
      (pss_one (ps_ret (RY.pe_methKw (E := fun _ => E) (pv 0) T.cl m_chg G_chg hr (kb_4 F_chg) (by decide +kernel) (by decide) (RY.passesAll (L2N.passes_call (L2N.takes_of rfl rfl rfl rfl) (fun _ _ _ _ h => h))) (pk_cons (pv 2) pk_nil))))
      pss_nil)
      (pss_cons (ps_if (pt_cmpR op_eq (pv 1) pe_int (nomark _))
      (pss_one (ps_ret (RY.pe_methKw (E := fun _ => E) (pv 0) T.cl m_chg G_chg hr (kb_5 F_chg) (by decide +kernel) (by decide) (RY.passesAll (L2N.passes_call (L2N.takes_of rfl rfl rfl rfl) (fun _ _ _ _ h => h))) (pk_cons (pv 2) pk_nil))))
      pss_nil)
      (pss_cons (ps_if (pt_cmpR op_eq (pv 1) pe_int (nomark _))
      (pss_one (ps_ret (RY.pe_methKw (E := fun _ => E) (pv 0) T.cl m_chg G_chg hr (kb_6 F_chg) (by decide +kernel) (by decide) (RY.passesAll (L2N.passes_call (L2N.takes_of rfl rfl rfl rfl) (fun _ _ _ _ h => h))) (pk_cons (pv 2) pk_nil))))
      pss_nil)
      (pss_cons (ps_if (pt_cmpR op_eq (pv 1) pe_int (nomark _))
      (pss_one (ps_ret (RY.pe_methKw (E := fun _ => E) (pv 0) T.cl m_chg G_chg hr (kb_7 F_chg) (by decide +kernel) (by decide) (RY.passesAll (L2N.passes_call (L2N.takes_of rfl rfl rfl rfl) (fun _ _ _ _ h => h))) (pk_cons (pv 2) pk_nil))))
      pss_nil)
      (pss_cons (ps_if (pt_cmpR op_eq (pv 1) pe_int (nomark _))
      (pss_one (ps_ret (RY.pe_methKw (E := fun _ => E) (pv 0) T.cl m_chg G_chg hr (kb_8 F_chg) (by decide +kernel) (by decide) (RY.passesAll (L2N.passes_call (L2N.takes_of rfl rfl rfl rfl) (fun _ _ _ _ h => h))) (pk_cons (pv 2) pk_nil))))
      pss_nil)
      (pss_cons (ps_if (pt_cmpR op_eq (pv 1) pe_int (nomark _))
      (pss_one (ps_ret (RY.pe_methKw (E := fun _ => E) (pv 0) T.cl m_chg G_chg hr (kb_9 F_chg) (by decide +kernel) (by decide) (RY.passesAll (L2N.passes_call (L2N.takes_of rfl rfl rfl rfl) (fun _ _ _ _ h => h))) (pk_cons (pv 2) pk_nil))))
      pss_nil)
      (pss_one (ps_ret (RY.pe_methKw (E := fun _ => E) (pv 0) T.cl m_chg G_chg hr (kb_10 F_chg) (by decide +kernel) (by decide) (RY.passesAll (L2N.passes_call (L2N.takes_of rfl rfl rfl rfl) (fun _ _ _ _ h => h))) (pk_cons (pv 2) pk_nil)))))))))))))), ?_⟩
    match k, hk with
    | 0, _ => exact ⟨.int 0, rfl, rfl, _, rfl, iteT ⟨.ref p, rfl, p, dx, _, rfl, hp, lkc, v, rfl, rfl, fun d nd => chg_ok (tl_0 x0 x1 x2 x3 x4 x5 x6 x7 x8 x9 x10 v) rfl hB hl ho rfl (by decide +kernel) (by decide) hz nd qe q⟩⟩
    | 1, _ => exact ⟨.int 1, rfl, rfl, _, rfl, iteF ⟨.int 1, rfl, rfl, _, rfl, iteT ⟨.ref p, rfl, p, dx, _, rfl, hp, lkc, v, rfl, rfl, fun d nd => chg_ok (tl_1 x0 x1 x2 x3 x4 x5 x6 x7 x8 x9 x10 v) rfl hB hl ho rfl (by decide +kernel) (by decide) hz nd qe q⟩⟩⟩
    | 2, _ => exact ⟨.int 2, rfl, rfl, _, rfl, iteF ⟨.int 2, rfl, rfl, _, rfl, iteF ⟨.int 2, rfl, rfl, _, rfl, iteT ⟨.ref p, rfl, p, dx, _, rfl, hp, lkc, v, rfl, rfl, fun d nd => chg_ok (tl_2 x0 x1 x2 x3 x4 x5 x6 x7 x8 x9 x10 v) rfl hB hl ho rfl (by decide +kernel) (by decide) hz nd qe q⟩⟩⟩⟩
    | 3, _ => exact ⟨.int 3, rfl, rfl, _, rfl, iteF ⟨.int 3, rfl, rfl, _, rfl, iteF ⟨.int 3, rfl, rfl, _, rfl, iteF ⟨.int 3, rfl, rfl, _, rfl, iteT ⟨.ref p, rfl, p, dx, _, rfl, hp, lkc, v, rfl, rfl, fun d nd => chg_ok (tl_3 x0 x1 x2 x3 x4 x5 x6 x7 x8 x9 x10 v) rfl hB hl ho rfl (by decide +kernel) (by decide) hz nd qe q⟩⟩⟩⟩⟩
    | 4, _ => exact ⟨.int 4, rfl, rfl, _, rfl, iteF ⟨.int 4, rfl, rfl, _, rfl, iteF ⟨.int 4, rfl, rfl, _, rfl, iteF ⟨.int 4, rfl, rfl, _, rfl, iteF ⟨.int 4, rfl, rfl, _, rfl, iteT ⟨.ref p, rfl, p, dx, _, rfl, hp, lkc, v, rfl, rfl, fun d nd => chg_ok (tl_4 x0 x1 x2 x3 x4 x5 x6 x7 x8 x9 x10 v) rfl hB hl ho rfl (by decide +kernel) (by decide) hz nd qe q⟩⟩⟩⟩⟩⟩
    | 5, _ => exact ⟨.int 5, rfl, rfl, _, rfl, iteF ⟨.int 5, rfl, rfl, _, rfl, iteF ⟨.int 5, rfl, rfl, _, rfl, iteF ⟨.int 5, rfl, rfl, _, rfl, iteF ⟨.int 5, rfl, rfl, _, rfl, iteF ⟨.int 5, rfl, rfl, _, rfl, iteT ⟨.ref p, rfl, p, dx, _, rfl, hp, lkc, v, rfl, rfl, fun d nd => chg_ok (tl_5 x0 x1 x2 x3 x4 x5 x6 x7 x8 x9 x10 v) rfl hB hl ho rfl (by decide +kernel) (by decide) hz nd qe q⟩⟩⟩⟩⟩⟩⟩
    | 6, _ => exact ⟨.int 6, rfl, rfl, _, rfl, iteF ⟨.int 6, rfl, rfl, _, rfl, iteF ⟨.int 6, rfl, rfl, _, rfl, iteF ⟨.int 6, rfl, rfl, _, rfl, iteF ⟨.int 6, rfl, rfl, _, rfl, iteF ⟨.int 6, rfl, rfl, _, rfl, iteF ⟨.int 6, rfl, rfl, _, rfl, iteT ⟨.ref p, rfl, p, dx, _, rfl, hp, lkc, v, rfl, rfl, fun d nd => chg_ok (tl_6 x0 x1 x2 x3 x4 x5 x6 x7 x8 x9 x10 v) rfl hB hl ho rfl (by decide +kernel) (by decide) hz nd qe q⟩⟩⟩⟩⟩⟩⟩⟩
    | 7, _ => exact ⟨.int 7, rfl, rfl, _, rfl, iteF ⟨.int 7, rfl, rfl, _, rfl, iteF ⟨.int 7, rfl, rfl, _, rfl, iteF ⟨.int 7, rfl, rfl, _, rfl, iteF ⟨.int 7, rfl, rfl, _, rfl, iteF ⟨.int 7, rfl, rfl, _, rfl, iteF ⟨.int 7, rfl, rfl, _, rfl, iteF ⟨.int 7, rfl, rfl, _, rfl, iteT ⟨.ref p, rfl, p, dx, _, rfl, hp, lkc, v, rfl, rfl, fun d nd => chg_ok (tl_7 x0 x1 x2 x3 x4 x5 x6 x7 x8 x9 x10 v) rfl hB hl ho rfl (by decide +kernel) (by decide) hz nd qe q⟩⟩⟩⟩⟩⟩⟩⟩⟩
    | 8, _ => exact ⟨.int 8, rfl, rfl, _, rfl, iteF ⟨.int 8, rfl, rfl, _, rfl, iteF ⟨.int 8, rfl, rfl, _, rfl, iteF ⟨.int 8, rfl, rfl, _, rfl, iteF ⟨.int 8, rfl, rfl, _, rfl, iteF ⟨.int 8, rfl, rfl, _, rfl, iteF ⟨.int 8, rfl, rfl, _, rfl, iteF ⟨.int 8, rfl, rfl, _, rfl, iteF ⟨.int 8, rfl, rfl, _, rfl, iteT ⟨.ref p, rfl, p, dx, _, rfl, hp, lkc, v, rfl, rfl, fun d nd => chg_ok (tl_8 x0 x1 x2 x3 x4 x5 x6 x7 x8 x9 x10 v) rfl hB hl ho rfl (by decide +kernel) (by decide) hz nd qe q⟩⟩⟩⟩⟩⟩⟩⟩⟩⟩
    | 9, _ => exact ⟨.int 9, rfl, rfl, _, rfl, iteF ⟨.int 9, rfl, rfl, _, rfl, iteF ⟨.int 9, rfl, rfl, _, rfl, iteF ⟨.int 9, rfl, rfl, _, rfl, iteF ⟨.int 9, rfl, rfl, _, rfl, iteF ⟨.int 9, rfl, rfl, _, rfl, iteF ⟨.int 9, rfl, rfl, _, rfl, iteF ⟨.int 9, rfl, rfl, _, rfl, iteF ⟨.int 9, rfl, rfl, _, rfl, iteF ⟨.int 9, rfl, rfl, _, rfl, iteT ⟨.ref p, rfl, p, dx, _, rfl, hp, lkc, v, rfl, rfl, fun d nd => chg_ok (tl_9 x0 x1 x2 x3 x4 x5 x6 x7 x8 x9 x10 v) rfl hB hl ho rfl (by decide +kernel) (by decide) hz nd qe q⟩⟩⟩⟩⟩⟩⟩⟩⟩⟩⟩
    | 10, _ => exact ⟨.int 10, rfl, rfl, _, rfl, iteF ⟨.int 10, rfl, rfl, _, rfl, iteF ⟨.int 10, rfl, rfl, _, rfl, iteF ⟨.int 10, rfl, rfl, _, rfl, iteF ⟨.int 10, rfl, rfl, _, rfl, iteF ⟨.int 10, rfl, rfl, _, rfl, iteF ⟨.int 10, rfl, rfl, _, rfl, iteF ⟨.int 10, rfl, rfl, _, rfl, iteF ⟨.int 10, rfl, rfl, _, rfl, iteF ⟨.int 10, rfl, rfl, _, rfl, iteF ⟨.ref p, rfl, p, dx, _, rfl, hp, lkc, v, rfl, rfl, fun d nd => chg_ok (tl_10 x0 x1 x2 x3 x4 x5 x6 x7 x8 x9 x10 v) rfl hB hl ho rfl (by decide +kernel) (by decide) hz nd qe q⟩⟩⟩⟩⟩⟩⟩⟩⟩⟩⟩
/-! ### _law_some_changed -/
/-- the way's places -/
def ways : List (List Nat) := [[9, 0, 7], [10, 3], [8, 1, 4, 2], [6, 5, 10], []]
def setAll (xs ys : List V) (js : List Nat) : List V := js.foldl (fun m j => m.set j (ys.getD j .non)) xs
def spSome (C CB : Addr) : Sp := fun vs H Q E => ∃ (p a : Addr) (xs ys : List V) (k : Nat), vs = [.ref p, .int (k : Int), .ref a] ∧ k ≤ 4 ∧ BookA C H p xs ∧ xs.length = 11 ∧ (∀ x ∈ xs, OddV H x) ∧ H a = some (.lst ys) ∧ ys.length = 11 ∧ (∀ y ∈ ys, OddV H y) ∧
  (∀ j, badF 0 (setAll xs ys (ways.getD k [])) = some j → ∀ H1 e, Same H H1 → H1 e = none → E (.ref CB) (some e) (upd H1 e (.xd [("field", .str (names.getD j (Str.ofString "")))]))) ∧
  (badF 0 (setAll xs ys (ways.getD k [])) = none → ∀ H' r, Same H H' → H r = none → BookA C H' r (setAll xs ys (ways.getD k [])) → Q (.ref r) H')
abbrev pSo : List Str := ["_law_book_here", "_law_way", "_law_v"]
theorem scSome : FnScope pSo pSo (defScope sSomeC) := ⟨rfl, rfl, rfl, by decide +kernel, rfl, by decide +kernel, by decide +kernel⟩
theorem ok_some {C CB FT f_chg f : Addr} {mc u : Value} {fd_chg fd : FuncData} (T : Bok K mg C FT mc u) (F_chg : Fun K "changed" "Book.changed" sChg f_chg fd_chg) (m_chg : Meth K C "changed" f_chg) (G_chg : RY.FnKw P w K mg base (L2N.CX P w) 6 f_chg fd_chg pCh "fields" (spChg C CB))
    (F : Fun K "_law_some_changed" "_law_some_changed" sSomeC f fd) : FnOk P w K mg base (L2N.CX P w) 7 f fd pSo (spSome C CB) := by
  refine RN.okXN F scSome (fun vs H Q E h => ?_) (fun cdv A0 outer s H vs Q E hr h => ?_)
  · obtain ⟨p, a, xs, ys, k, rfl, _⟩ := h; rfl
  · obtain ⟨p, a, xs, ys, k, rfl, hk, hB, hl, ho, ha, hl2, ho2, qe, q⟩ := h
    obtain ⟨dx, w0, hp, hw⟩ := id hB
    have lkc := lkC hl w0
    obtain ⟨x0, x1, x2, x3, x4, x5, x6, x7, x8, x9, x10, rfl⟩ := len11 hl
    obtain ⟨y0, y1, y2, y3, y4, y5, y6, y7, y8, y9, y10, rfl⟩ := len11 hl2
    refine ⟨_, (pss_cons (ps_if (pt_cmpR op_eq (pv 1) pe_int (nomark _))
      (pss_one (ps_ret (RY.pe_methKw (E := fun _ => E) (pv 0) T.cl m_chg G_chg hr (kb_11 F_chg) (by decide +kernel) (by decide) (RY.passesAll (L2N.passes_call (L2N.takes_of rfl rfl rfl rfl) (fun _ _ _ _ h => h))) (pk_cons (pe_ix ix_list (pv 2) pe_int (fun _ _ => rfl)) (pk_cons (pe_ix ix_list (pv 2) pe_int (fun _ _ => rfl)) (pk_cons (pe_ix ix_list (pv 2) pe_int (fun _ _ => rfl)) pk_nil))))))
      pss_nil)
      (pss_cons (ps_if (pt_cmpR op_eq (pv 1) pe_int (nomark _))
      (pss_one (ps_ret (RY.pe_methKw (E := fun _ => E) (pv 0) T.cl m_chg G_chg hr (kb_12 F_chg) (by decide +kernel) (by decide) (RY.passesAll (L2N.passes_call (L2N.takes_of rfl rfl rfl rfl) (fun _ _ _ _ h => h))) (pk_cons (pe_ix ix_list (pv 2) pe_int (fun _ _ => rfl)) (pk_cons (pe_ix ix_list (pv 2) pe_int (fun _ _ => rfl)) pk_nil)))))
      pss_nil)
      (pss_cons (ps_if (pt_cmpR op_eq (pv 1) pe_int (nomark _))
      (pss_one (ps_ret (RY.pe_methKw (E := fun _ => E) (pv 0) T.cl m_chg G_chg hr (kb_13 F_chg) (by decide +kernel) (by decide) (RY.passesAll (L2N.passes_call (L2N.takes_of rfl rfl rfl rfl) (fun _ _ _ _ h => h))) (pk_cons (pe_ix ix_list (pv 2) pe_int (fun _ _ => rfl)) (pk_cons (pe_ix ix_list (pv 2) pe_int (fun _ _ => rfl)) (pk_cons (pe_ix ix_list (pv 2) pe_int (fun _ _ => rfl)) (pk_cons (pe_ix ix_list (pv 2) pe_int (fun _ _ => rfl)) pk_nil)))))))
      pss_nil)
      (pss_cons (ps_if (pt_cmpR op_eq (pv 1) pe_int (nomark _))
      (pss_one (ps_ret (RY.pe_methKw (E := fun _ => E) (pv 0) T.cl m_chg G_chg hr (kb_14 F_chg) (by decide +kernel) (by decide) (RY.passesAll (L2N.passes_call (L2N.takes_of rfl rfl rfl rfl) (fun _ _ _ _ h => h))) (pk_cons (pe_ix ix_list (pv 2) pe_int (fun _ _ => rfl)) (pk_cons (pe_ix ix_list (pv 2) pe_int (fun _ _ => rfl)) (pk_cons (pe_ix ix_list (pv 2) pe_int (fun _ _ => rfl)) pk_nil))))))
      pss_nil)
      (pss_one (ps_ret (RY.pe_methKw (E := fun _ => E) (pv 0) T.cl m_chg G_chg hr (kb_15 F_chg) (by decide +kernel) (by decide) (RY.passesAll (L2N.passes_call (L2N.takes_of rfl rfl rfl rfl) (fun _ _ _ _ h => h))) pk_nil))))))), ?_⟩
    match k, hk with
    | 0, _ => exact ⟨.int 0, rfl, rfl, _, rfl, iteT ⟨.ref p, rfl, p, dx, _, rfl, hp, lkc, .ref a, rfl, a, _, 9, y9, rfl, rfl, SqL.of ha, rfl, .ref a, rfl, a, _, 0, y0, rfl, rfl, SqL.of ha, rfl, .ref a, rfl, a, _, 7, y7, rfl, rfl, SqL.of ha, rfl, rfl, fun d nd => chg_ok (zs := [y9, y0, y7]) (tl_11 x0 x1 x2 x3 x4 x5 x6 x7 x8 x9 x10 y9 y0 y7) rfl hB hl ho rfl (by decide +kernel) (by decide) (fun z hz => ho2 z (by simp only [List.mem_cons, List.not_mem_nil, or_false] at hz ⊢; rcases hz with rfl | rfl | rfl <;> simp)) nd qe q⟩⟩
    | 1, _ => exact ⟨.int 1, rfl, rfl, _, rfl, iteF ⟨.int 1, rfl, rfl, _, rfl, iteT ⟨.ref p, rfl, p, dx, _, rfl, hp, lkc, .ref a, rfl, a, _, 10, y10, rfl, rfl, SqL.of ha, rfl, .ref a, rfl, a, _, 3, y3, rfl, rfl, SqL.of ha, rfl, rfl, fun d nd => chg_ok (zs := [y10, y3]) (tl_12 x0 x1 x2 x3 x4 x5 x6 x7 x8 x9 x10 y10 y3) rfl hB hl ho rfl (by decide +kernel) (by decide) (fun z hz => ho2 z (by simp only [List.mem_cons, List.not_mem_nil, or_false] at hz ⊢; rcases hz with rfl | rfl <;> simp)) nd qe q⟩⟩⟩
    | 2, _ => exact ⟨.int 2, rfl, rfl, _, rfl, iteF ⟨.int 2, rfl, rfl, _, rfl, iteF ⟨.int 2, rfl, rfl, _, rfl, iteT ⟨.ref p, rfl, p, dx, _, rfl, hp, lkc, .ref a, rfl, a, _, 8, y8, rfl, rfl, SqL.of ha, rfl, .ref a, rfl, a, _, 1, y1, rfl, rfl, SqL.of ha, rfl, .ref a, rfl, a, _, 4, y4, rfl, rfl, SqL.of ha, rfl, .ref a, rfl, a, _, 2, y2, rfl, rfl, SqL.of ha, rfl, rfl, fun d nd => chg_ok (zs := [y8, y1, y4, y2]) (tl_13 x0 x1 x2 x3 x4 x5 x6 x7 x8 x9 x10 y8 y1 y4 y2) rfl hB hl ho rfl (by decide +kernel) (by decide) (fun z hz => ho2 z (by simp only [List.mem_cons, List.not_mem_nil, or_false] at hz ⊢; rcases hz with rfl | rfl | rfl | rfl <;> simp)) nd qe q⟩⟩⟩⟩
    | 3, _ => exact ⟨.int 3, rfl, rfl, _, rfl, iteF ⟨.int 3, rfl, rfl, _, rfl, iteF ⟨.int 3, rfl, rfl, _, rfl, iteF ⟨.int 3, rfl, rfl, _, rfl, iteT ⟨.ref p, rfl, p, dx, _, rfl, hp, lkc, .ref a, rfl, a, _, 6, y6, rfl, rfl, SqL.of ha, rfl, .ref a, rfl, a, _, 5, y5, rfl, rfl, SqL.of ha, rfl, .ref a, rfl, a, _, 10, y10, rfl, rfl, SqL.of ha, rfl, rfl, fun d nd => chg_ok (zs := [y6, y5, y10]) (tl_14 x0 x1 x2 x3 x4 x5 x6 x7 x8 x9 x10 y6 y5 y10) rfl hB hl ho rfl (by decide +kernel) (by decide) (fun z hz => ho2 z (by simp only [List.mem_cons, List.not_mem_nil, or_false] at hz ⊢; rcases hz with rfl | rfl | rfl <;> simp)) nd qe q⟩⟩⟩⟩⟩
    | 4, _ => exact ⟨.int 4, rfl, rfl, _, rfl, iteF ⟨.int 4, rfl, rfl, _, rfl, iteF ⟨.int 4, rfl, rfl, _, rfl, iteF ⟨.int 4, rfl, rfl, _, rfl, iteF ⟨.ref p, rfl, p, dx, _, rfl, hp, lkc, rfl, fun d nd => chg_ok (zs := []) (tl_15 x0 x1 x2 x3 x4 x5 x6 x7 x8 x9 x10) rfl hB hl ho rfl (by decide +kernel) (by decide) (fun z hz => nomatch hz) nd qe q⟩⟩⟩⟩⟩
end
end K35

set_option maxRecDepth 100000
set_option maxHeartbeats 2000000
/-! in a def called inside an except suite: for over a list, over a tuple; the caught error as an argument -/
namespace RH
open PySem PySem.Spec PyProof.Rows L2 HotX L2H
section
variable {prog : Program} {w : World} {A : Around} {E : Value → Shared → Prop} {s : Shared}
theorem list_end_hot {it l x1 : Addr} {i : Nat} {items : Array Value} {Q : Option Value → Shared → Prop} (hot : HotAt A x1 s.heap)
    (hit : s.heap.IsListIter it l i) (hl : s.heap.IsList l items) (hx : items[i]? = none)
    (hQ : ∀ h', Heap.ExtBut it s.heap h' → Q none { s with heap := h' }) : wpAny (model prog w) A (pyNext (.ref it)) Q E s := by
  obtain ⟨o, ho, hc, hd⟩ := id hit
  obtain ⟨ol, hol, _, nl, hdl⟩ := hl
  obtain ⟨hh, o1, vs1, h1, d1, c1⟩ := hot
  have hne : x1 ≠ it := fun e => by
    subst e
    rw [h1] at ho; cases ho
    rw [d1] at hd; cases hd
    cases c1
  unfold pyNext
  refine wpAny_bind (wpAny_attempt (wpAny_callSpecial?_slot (name := Str.ofString "__next__") hit.typeIs slot_listiter_next
    (wpAny_call_entry slot_listiter_next hit.typeIs entry_listiter_next ?_ (args_listiter_next _))))
  show wpAny _ _ (field (.ref it) 0 >>= _) _ _ s
  refine wpAny_bind (wpAny_field ho hd (x := .ref l) rfl ?_)
  show wpAny _ _ (if (Value.ref l == Value.none) = true then _ else _) _ _ s
  rw [if_neg (show ¬ ((Value.ref l == Value.none) = true) from Bool.false_ne_true)]
  show wpAny _ _ (field (.ref it) 1 >>= _) _ _ s
  refine wpAny_bind (wpAny_field ho hd (x := .int i 0) rfl ?_)
  show wpAny _ _ (seqItems? (.ref l) >>= _) _ _ s
  refine wpAny_bind (wpAny_seqItems hol hdl ?_)
  simp only [Int.toNat_natCast, hx]
  refine wpAny_bind (wpAny_rule (wpAny_bind (wpAny_setField ho hd (by simp) ?_)))
  show wpAny _ _ (newExc (.type "StopIteration") [] >>= _) _ _ _
  refine wpAny_bind ?_
  simp only [newExc, newTuple]
  refine wpAny_bind (wpAny_newObj_type ?_ (by size_fits))
  refine wpAny_bind (m := firstArgMember _ _) (wpAny_of_eq (a := Value.none) (by first | rfl | (simp only [firstArgMember]; rfl)) ?_)
  refine wpAny_newObj_type ?_ (by size_fits)
  refine raiseNew_hot ⟨hh, o1, vs1, Heap.get?_push_of_some _ (Heap.get?_push_of_some _ ((Heap.get?_update_other _ _ (Ne.symm hne)).trans h1)), d1, c1⟩ (Nat.ne_of_lt (Heap.lt_size (Heap.get?_push_of_some _ ((Heap.get?_update_other _ _ (Ne.symm hne)).trans h1)))) (Heap.get?_push_size _ rfl) rfl (by first | (simp; done) | (simp; omega) | (simp only [Array.size_append]; simp; omega)) ?_
  refine wpAny_bind (wpAny_isInstance (T := "StopIteration") (b := true) ⟨_, Heap.get?_update_self _ (Heap.get?_push_size _ rfl) rfl, rfl⟩ isSubtype_stop ?_)
  refine wpAny_pure (hQ _ fun b o' hb e => ?_)
  refine (Heap.get?_update_other _ _ ?_).trans ((((Heap.SameBut.update ..).extBut.push _).push _) b o' hb e)
  exact Nat.ne_of_gt (Heap.lt_size (((Heap.SameBut.update ..).extBut.push _) b o' hb e))
theorem tuple_end_hot {it t x1 : Addr} {i : Nat} {items : Array Value} {Q : Option Value → Shared → Prop} (hot : HotAt A x1 s.heap)
    (hit : s.heap.IsTupleIter it t i) (ht : s.heap.IsTuple t items) (hx : items[i]? = none)
    (hQ : ∀ h', Heap.ExtBut it s.heap h' → Q none { s with heap := h' }) : wpAny (model prog w) A (pyNext (.ref it)) Q E s := by
  obtain ⟨o, ho, hc, hd⟩ := id hit
  obtain ⟨ol, hol, _, nl, hdl⟩ := ht
  obtain ⟨hh, o1, vs1, h1, d1, c1⟩ := hot
  have hne : x1 ≠ it := fun e => by
    subst e
    rw [h1] at ho; cases ho
    rw [d1] at hd; cases hd
    cases c1
  unfold pyNext
  refine wpAny_bind (wpAny_attempt (wpAny_callSpecial?_slot (name := Str.ofString "__next__") hit.typeIs F.slot_tuple_iterator_next
    (wpAny_call_entry F.slot_tuple_iterator_next hit.typeIs F.entry_tuple_iterator_next ?_ (F.args_tuple_iterator_next_1 _))))
  show wpAny _ _ (field (.ref it) 0 >>= _) _ _ s
  refine wpAny_bind (wpAny_field ho hd (x := .ref t) rfl ?_)
  show wpAny _ _ (if (Value.ref t == Value.none) = true then _ else _) _ _ s
  rw [if_neg (show ¬ ((Value.ref t == Value.none) = true) from Bool.false_ne_true)]
  show wpAny _ _ (field (.ref it) 1 >>= _) _ _ s
  refine wpAny_bind (wpAny_field ho hd (x := .int i 0) rfl ?_)
  show wpAny _ _ (seqItems? (.ref t) >>= _) _ _ s
  refine wpAny_bind (wpAny_seqItems hol hdl ?_)
  simp only [Int.toNat_natCast, hx]
  refine wpAny_bind (wpAny_rule (wpAny_bind (wpAny_setField ho hd (by simp) ?_)))
  show wpAny _ _ (newExc (.type "StopIteration") [] >>= _) _ _ _
  refine wpAny_bind ?_
  simp only [newExc, newTuple]
  refine wpAny_bind (wpAny_newObj_type ?_ (by size_fits))
  refine wpAny_bind (m := firstArgMember _ _) (wpAny_of_eq (a := Value.none) (by first | rfl | (simp only [firstArgMember]; rfl)) ?_)
  refine wpAny_newObj_type ?_ (by size_fits)
  refine raiseNew_hot ⟨hh, o1, vs1, Heap.get?_push_of_some _ (Heap.get?_push_of_some _ ((Heap.get?_update_other _ _ (Ne.symm hne)).trans h1)), d1, c1⟩ (Nat.ne_of_lt (Heap.lt_size (Heap.get?_push_of_some _ ((Heap.get?_update_other _ _ (Ne.symm hne)).trans h1)))) (Heap.get?_push_size _ rfl) rfl (by first | (simp; done) | (simp; omega) | (simp only [Array.size_append]; simp; omega)) ?_
  refine wpAny_bind (wpAny_isInstance (T := "StopIteration") (b := true) ⟨_, Heap.get?_update_self _ (Heap.get?_push_size _ rfl) rfl, rfl⟩ isSubtype_stop ?_)
  refine wpAny_pure (hQ _ fun b o' hb e => ?_)
  refine (Heap.get?_update_other _ _ ?_).trans ((((Heap.SameBut.update ..).extBut.push _).push _) b o' hb e)
  exact Nat.ne_of_gt (Heap.lt_size (((Heap.SameBut.update ..).extBut.push _) b o' hb e))
end
theorem turn_listH {P : Program} {w : World} {K : PySem.W.Frag} {tg : Expr} (a it : Addr) : TurnH P w K tg (Itl K a) [it] it (fun i h => h.IsListIter it a i) where
  mem := by simp
  obj := fun i h st b hb => by
    have e : b = it := by simpa using hb
    subst e
    obtain ⟨o, e, c, d⟩ := st
    exact ⟨o, e, fun v z => by rw [d] at z; cases z⟩
  keep := fun i h h' st k => st.at fun o e => k it (by simp) o e
  item := by
    intro X hP hw hK hc i pins s σ H E I hf st hg
    subst hP hw hK
    obtain ⟨xs, x, hq, hx⟩ := hg
    obtain ⟨its, rv, p, hz⟩ := I.list hq
    obtain ⟨u, hu, ru⟩ := rv.get hx
    obtain ⟨f0, f1, f2, f3, f4, f5⟩ := hf it (by simp)
    refine wpAny_pyNext_list_item st p.isList (x := u) (by simpa using hu) fun h' st' sb => ?_
    have I1 : Inv X pins σ H { s with heap := h' } := I.turned (t' := s.toks) (fun b o hb e => (sb.2 b hb).trans e) f0 f1 f3 f4 f5
    obtain ⟨o, e, c, d⟩ := id st'
    exact ⟨u, rfl, go_of (s := { s with heap := h' }) e c d (by decide) ⟨x, H, I1, ru, ⟨rfl, fun ys hy => by rw [I.list_inj hy hq]; exact hx⟩, st', fun b hb => (hf b hb).1⟩⟩
  done := by
    intro X hP hw hK hc i pins s σ H E I hf st hg
    subst hP hw hK
    obtain ⟨xs, hq, hx⟩ := hg
    obtain ⟨its, rv, p, hz⟩ := I.list hq
    obtain ⟨f0, f1, f2, f3, f4, f5⟩ := hf it (by simp)
    have hl := rv.length
    obtain ⟨x1, hot⟩ := hc.at I
    exact list_end_hot hot st p.isList (by simp; omega) fun h' eb => ⟨rfl, I.turned (t' := s.toks) (fun b o hb e => eb b o hb e) f0 f1 f3 f4 f5⟩
  self := fun _ _ _ _ _ st h => wpAny_pyIter_listiter st h
theorem turn_tupleH {P : Program} {w : World} {K : PySem.W.Frag} {tg : Expr} (a it : Addr) : TurnH P w K tg (Itt K a) [it] it (fun i h => h.IsTupleIter it a i) where
  mem := by simp
  obj := fun i h st b hb => by
    have e : b = it := by simpa using hb
    subst e
    obtain ⟨o, e, c, d⟩ := st
    exact ⟨o, e, fun v z => by rw [d] at z; cases z⟩
  keep := fun i h h' st k => st.at fun o e => k it (by simp) o e
  item := by
    intro X hP hw hK hc i pins s σ H E I hf st hg
    subst hP hw hK
    obtain ⟨xs, x, hq, hx⟩ := hg
    obtain ⟨its, rv, p, hz⟩ := I.tuple hq
    obtain ⟨u, hu, ru⟩ := rv.get hx
    obtain ⟨f0, f1, f2, f3, f4, f5⟩ := hf it (by simp)
    refine wpAny_pyNext_tuple_item st (show s.heap.IsTuple a its.toArray from p) (x := u) (by simpa using hu) fun h' st' sb => ?_
    have I1 : Inv X pins σ H { s with heap := h' } := I.turned (t' := s.toks) (fun b o hb e => (sb.2 b hb).trans e) f0 f1 f3 f4 f5
    obtain ⟨o, e, c, d⟩ := id st'
    exact ⟨u, rfl, go_of (s := { s with heap := h' }) e c d (by decide) ⟨x, H, I1, ru, ⟨rfl, fun ys hy => by rw [I.tuple_inj hy hq]; exact hx⟩, st', fun b hb => (hf b hb).1⟩⟩
  done := by
    intro X hP hw hK hc i pins s σ H E I hf st hg
    subst hP hw hK
    obtain ⟨xs, hq, hx⟩ := hg
    obtain ⟨its, rv, p, hz⟩ := I.tuple hq
    obtain ⟨f0, f1, f2, f3, f4, f5⟩ := hf it (by simp)
    have hl := rv.length
    obtain ⟨x1, hot⟩ := hc.at I
    exact tuple_end_hot hot st (show s.heap.IsTuple a its.toArray from p) (by simp; omega) fun h' eb => ⟨rfl, I.turned (t' := s.toks) (fun b o hb e => eb b o hb e) f0 f1 f3 f4 f5⟩
  self := fun _ _ _ _ _ st h => wpAny_pyIter_tupleiter st h
section
variable {X : Cx} {tg : Expr}
theorem pi_listH {l : Expr} {tl : TE} (hl : PE X l tl) : PIH X tg l (iList X.K tl) := by
  refine ⟨fun pins s σ H R I h => ?_⟩
  refine thn (hl.run pins s σ H _ I h) fun v s1 ⟨x, H1, I1, r1, q1⟩ => ?_
  obtain ⟨a, e, ⟨xs, hq⟩, q⟩ := q1
  subst e
  cases r1
  obtain ⟨its, rv, p, hz⟩ := I1.list hq
  refine wpAny_pyIter_list p.isList ?_
  refine ⟨s1.heap.objs.size, [s1.heap.objs.size], _, _, H1, rfl, I1.kept (t' := s1.toks) fun b o e => Heap.get?_push_of_some _ e, turn_listH a _, ⟨_, Heap.get?_push_size _ rfl, rfl, rfl⟩, fun b hb => ?_, q⟩
  have e : b = s1.heap.objs.size := by simpa using hb
  subst e
  exact I1.fpOk (Nat.le_refl _) (I1.hok.fresh (Nat.le_refl _))
theorem pi_tupH {l : Expr} {tl : TE} (hl : PE X l tl) : PIH X tg l (iTup X.K tl) := by
  refine ⟨fun pins s σ H R I h => ?_⟩
  refine thn (hl.run pins s σ H _ I h) fun v s1 ⟨x, H1, I1, r1, q1⟩ => ?_
  obtain ⟨a, e, ⟨xs, hq⟩, q⟩ := q1
  subst e
  cases r1
  obtain ⟨its, rv, p, hz⟩ := I1.tuple hq
  refine wpAny_pyIter_tuple (show s1.heap.IsTuple a its.toArray from p) ?_
  refine ⟨s1.heap.objs.size, [s1.heap.objs.size], _, _, H1, rfl, I1.kept (t' := s1.toks) fun b o e => Heap.get?_push_of_some _ e, turn_tupleH a _, ⟨_, Heap.get?_push_size _ rfl, rfl, rfl⟩, fun b hb => ?_, q⟩
  have e : b = s1.heap.objs.size := by simpa using hb
  subst e
  exact I1.fpOk (Nat.le_refl _) (I1.hok.fresh (Nat.le_refl _))
end
end RH

set_option maxRecDepth 100000
set_option maxHeartbeats 2000000
/-! a def called inside an except suite with the caught error as an argument: its class, its fields -/
namespace RH
section
open PySem PySem.Spec PyProof.Rows L2 PySem.W PySem.Calls
/-! isinstance of a caught error whose own dict stands -/
section
variable {prog : Program} {w : World} {A : Around} {E : Value → Shared → Prop} {s : Shared} {K : Frag} {x D : Addr} {ox : Obj} {od : Option Obj}
theorem find_cls (hc : (clsIn K D).isSome = true) (C : L2.ExcC K D) : findObj K D od "__class__" = some (.bind (.builtin "getset_descriptor.__get__") (.builtin "object.__class__")) := by
  obtain ⟨cd, e⟩ := Option.isSome_iff_exists.mp hc
  unfold findObj
  rw [e, Option.bind_some, C.ha, Option.bind_some]; simp [C.hn, C.ht]
theorem ask_cls {Q : Option Value → Shared → Prop} (C : L2.ExcC K D) (X : K.In s.heap) (I : InstAt s.heap x ox D od) (h : Q (some (.ref D)) { s with toks := s.toks + 1 }) :
    wpAny (model prog w) A (getAttr? (.ref x) "__class__") Q E s := by
  have hf := find_cls (od := od) (by obtain ⟨c0, e0, _⟩ := any_some C.hd; rw [e0]; rfl) C
  obtain ⟨hp, g, dr, tk, os⟩ := s
  have A0 := I.type (M := model prog w); have A1 := looks_findIn (M := model prog w) X C.hg; have A2 := looks_findIn (M := model prog w) X C.hk
  have A3 := looks_find (M := model prog w) X I hf; have A4 : Looks (model prog w) hp (isInstance (.ref x) (.type "BaseException")) true := A0.andThen (looks_subIn X C.hs)
  have b0 : (false && onTheHeap (Value.builtin "BaseException.__getattribute__")) = false := rfl
  have b2 : (Value.builtin "BaseException.__getattribute__" == Value.builtin "object.__getattribute__") = false := by decide +kernel
  have b1 : (onTheHeap (Value.ref D) && Value.builtin "BaseException.__getattribute__" == Value.builtin "object.__getattribute__") = false := by rw [b2]; rfl
  unfold getAttr? getAttrBy? getAttrBy
  refine wpAny_bind (wpAny_mkText (wpAny_bind (wpAny_attempt (wpAny_holding (wpAny_bind (A0.at (wpAny_bind (A1.at ?_))))))))
  show wpAny _ _ (if (onTheHeap (Value.ref D) && Value.builtin "BaseException.__getattribute__" == Value.builtin "object.__getattribute__") = true then _ else _) _ _ _
  rw [b1, if_neg Bool.false_ne_true]; unfold getAttrByItsOwn hookBefore
  refine wpAny_bind ?_; rw [if_pos (show onTheHeap (Value.ref D) = true from rfl)]; refine A2.at ?_
  refine wpAny_bind (wpAny_attempt (wpAny_holding ?_)); unfold callGetattribute; rw [b0, if_neg Bool.false_ne_true]; unfold boundAndCalled
  rw [PySem.F.excAttr_ValueError.ga.bind (.ref x)]; refine wpAny_bind (wpAny_pure ?_)
  show wpAny _ _ (call (.builtin "BaseException.__getattribute__") [.ref x, .str "__class__" tk]) _ _ _
  refine wpAny_call (codeAny_call_builtin PySem.F.excAttr_ValueError.ga.plain PySem.F.entry_bexc_ga ?_)
  refine @check_slot (model prog w) _ _ ⟨hp, g, dr, tk + 1, os⟩ "BaseException.__getattribute__" "BaseException" "__getattribute__" (.ref x) [.str "__class__" tk] [] _ (by decide +kernel) (by decide +kernel) A4 (PySem.F.args_bexc_ga (.ref x) (.str "__class__" tk)) ?_
  unfold Builtin.«object.__getattribute__»; refine wpAny_bind (wpAny_of_eq (a := ((Value.ref x : Value), [Value.str "__class__" tk])) (by first | rfl | (simp only [slotArgs]; rfl)) ?_)
  refine wpAny_bind (wpAny_pure (wpAny_bind (A0.at (wpAny_bind (A3.at ?_)))))
  show wpAny _ _ (holding [Value.builtin "object.__class__"] (call (.builtin "getset_descriptor.__get__") [.builtin "object.__class__", .ref x, .ref D]) >>= ret) _ _ _
  refine wpAny_bind (wpAny_holding (wpAny_call (class_get (s := ⟨hp, g, dr, tk + 1, os⟩) (ox := ox) (od := od) X I C.hm ?_))); refine wpAny_pure ?_
  show wpAny _ _ (handedOut (.ref D)) _ _ _; rw [handedOut_of (v := .ref D) rfl]
  first | exact wpAny_pure (wpAny_pure h) | exact wpAny_pure h | exact wpAny_pure (wpAny_bind (wpAny_pure (wpAny_pure h)))
theorem kit_err (C : L2.ExcC K D) : KitX K (.ref x) (.ref D) (fun h => InstAt h x ox D od) := by
  obtain ⟨cd, hc, _⟩ := any_some C.hd
  refine ⟨fun _ _ _ I => I.type, fun M h X _ => ?_, fun h tp dd its n sl X htp => ?_, fun X I k => ask_cls C X I k⟩
  · unfold clsIn at hc
    split at hc
    · rename_i o1 o2 o3 o4 ho
      intro A' Q' E' s' k q; unfold isType loadHead; exact wpAny_bind (wpAny_loadPart (k _ _ (X _ _ ho)) (wpAny_pure q))
    · cases hc
  · refine Bool.eq_false_iff.mpr fun q => ?_
    have e : D = tp := Value.ref.inj (beq_iff_eq.mp q); subst e
    unfold clsIn at hc
    split at hc
    · rename_i o1 o2 o3 o4 ho
      have z := (X _ _ ho).symm.trans htp; cases z
    · cases hc
end
end
open PySem PySem.Spec PyProof.Rows L2 HotX L2H
structure FnE (P : Program) (w : World) (K : PySem.W.Frag) (mg : Str → Option Value) (base : Heap) (CX : CXT) (k : Nat) (f : Addr) (fd : FuncData) (ps : List Str) (sp : Addr × Obj → Sp) : Prop where
  len : ∀ p vs H Q E, sp p vs H Q E → vs.length = ps.length
  run : ∀ (A : Around) (outer : List Env) (s : Shared) (H : Hp) (args : Args) (us : List Value) (vs : List V) (Q : VK) (E : XK) (p : Addr × Obj), RoomH k A → Hot1 A p → PinOk outer H s p → Env0 P w K mg base A outer s H → BindsTo s fd args (ps.zip us) → Vals vs us → sp p vs H Q E →
    codeAny (model P w) A (.call (.ref f) args) (CR CX outer P w H s Q E) s
theorem fn_ofE {CX : CXT} {P : Program} {w : World} {K : PySem.W.Frag} {mg : Str → Option Value} {base : Heap} {k : Nat} {f : Addr} {name qual : Str} {params : Arguments} {body : List Stmt} {scope : Scope} {dV kV doc pm cdv ct oc : Value} {an od : Option Addr}
    {osl : Array (Option Value)} {N ps : List Str} {sp : Addr × Obj → Sp} (lk : K.lookup f = some ⟨oc, od, .func (PySem.W.fnOf name qual params body scope dV kV doc pm an cdv ct), osl⟩) (hcd : PySem.W.codeIn K cdv qual = true) (S : FnScope N ps scope)
    (len : ∀ p vs H Q E, sp p vs H Q E → vs.length = ps.length)
    (hbody : ∀ (A : Around) (outer : List Env) (s : Shared) (H : Hp) (vs : List V) (Q : VK) (E : XK) (p : Addr × Obj), Hot1 A p → RoomH k (A.deeper (envOfC qual scope s.heap.objs.size f cdv)) → sp p vs H Q E →
      ∃ t, PSs (cxH CX P w K mg base N qual scope f cdv A outer s H E p) body t ∧ t { nx := fun _ H' => Q .non H', rt := Q } (L2.start N vs) H) :
    FnE P w K mg base CX (k + 1) f (PySem.W.fnOf name qual params body scope dV kV doc pm an cdv ct) ps sp := by
  refine ⟨len, fun A outer s H args us vs Q E p hr hot hpin e0 hb r hsp => ?_⟩
  have hl := len _ _ _ _ _ hsp
  have KX : K.In s.heap := e0.mod.kin.keeps fun b o e => (e0.bs b o e).1
  have lim : s.heap.NoLimit := e0.mod.nolimit.keeps fun b o e => (e0.bs b o e).1
  have hkind : ∀ y ∈ ps.zip us, scope.names.lookup y.1 = some .local ∨ (scope.names.lookup y.1 = some .cell ∧ ((cellsFrom (s.heap.objs.size + 1) scope.names []).lookup y.1).isSome = true) := fun ⟨n, v⟩ hy => by
    rcases S.par n (List.of_mem_zip hy).1 with q | q
    · exact .inl q
    · exact .inr ⟨q, PySem.W.cellsFrom_some _ _ _ (.inl q)⟩
  refine codeAny_call_function hr.depth (KX _ _ lk) rfl S.co S.gen rfl (PySem.W.codeRec_of KX hcd) (hb _ _ _ _ ?_)
  refine wpAny_newFunctionEnv_cells S.kind hkind fun env he s1 x => ?_
  subst he
  refine ⟨lim.keeps x.toInCall.keep, codeAny_func ?_⟩
  obtain ⟨t, ht, hq⟩ := hbody A outer s H vs Q E p hot (hr.deeper _) hsp
  have I : Inv (cxH CX P w K mg base N qual scope f cdv A outer s H E p) [] (L2.start N vs) H s1 := inv_startH S hpin e0 hl r x
  refine wpAny_mono (ht.run [] s1 (L2.start N vs) H _ I hq) (fun fl s' hs => ?_) fun e s' hs => hs
  have fin : ∀ {σ' : L2.St} {H' : Hp} {v : V} {u : Value}, Inv (cxH CX P w K mg base N qual scope f cdv A outer s H E p) [] σ' H' s' → RelV v u → Q v H' → CE outer P w H s Q u s' :=
    fun {σ' H' v u} J rv q => ⟨v, H', J.os, J.bare, J.base, J.hok, rv, q⟩
  cases fl with
  | ret u =>
    obtain ⟨v, σ', H', J, rv, q⟩ := hs
    exact fin J rv q
  | next =>
    obtain ⟨σ', H', J, q⟩ := hs
    exact fin (v := V.non) (u := Value.none) J rfl q
  | brk =>
    obtain ⟨_, _, _, q⟩ := hs
    exact False.elim q
  | cont =>
    obtain ⟨_, _, _, q⟩ := hs
    exact False.elim q

section
variable {X : Cx} {CX : CXT} {k : Nat} {f C : Addr} {fd : FuncData} {ps : List Str} {sp : Addr × Obj → Sp} {E : L2.St → XK} {x m : Str} {q pos apos : Pos} {e o : Expr} {es : List Expr} {ta : TE} {t : TA} {p : Addr × Obj}
theorem run_fnE {pins : List (Addr × Obj)} {σ : L2.St} {H : Hp} {s : Shared} {Q : VK} {us : List Value} {vs : List V} (F : FnE X.prog X.w X.K X.mg X.base CX k f fd ps sp) (hr : RoomH k X.A) (hot : Hot1 X.A p) (hp : p ∈ X.pn) (hb : Binds X.K fd ps []) (hx : PassesAt CX X σ (E σ))
    (I : Inv X pins σ H s) (r : Vals vs us) (h : sp p vs H Q (E σ)) : wpAny (model X.prog X.w) X.A (call (.ref f) us) (EP X pins σ Q) X.xe s := by
  have hl : us.length = ps.length := by rw [← r.length]; exact F.len _ _ _ _ _ h
  have b := hb s us I.kIn (by rw [List.append_nil]; exact hl)
  rw [List.append_nil] at b
  have P1 := I.pin p (List.mem_append_left _ hp)
  have hpin : PinOk X.stack H s p := ⟨P1.1, P1.2.1, fun hm => (List.mem_cons.mp (I.stkSub p.1 hm)).elim P1.2.2.1 P1.2.2.2.1, P1.2.2.2.2⟩
  refine wpAny_call (codeAny_mono (F.run X.A X.stack s H ⟨us, []⟩ us vs Q (E σ) p hr hot hpin I.env0 b r h) fun r s' hq => ?_)
  cases r with
  | error e => exact hx pins H s e s' I hq
  | ok fl =>
    cases fl with
    | ret u => exact I.after hq
    | next => exact False.elim hq
    | brk => exact False.elim hq
    | cont => exact False.elim hq
theorem pe_callE (F : FnE X.prog X.w X.K X.mg X.base CX k f fd ps sp) (hr : RoomH k X.A) (hot : Hot1 X.A p) (hp : p ∈ X.pn) (hg : Gl X x) (hm : X.mg x = some (.ref f)) (hk : PySem.W.keepIn X.K (.ref f) = true) (hb : Binds X.K fd ps []) (hx : ∀ σ, PassesAt CX X σ (E σ))
    (ha : PA X (e :: es) t) (hdb : (x == ("__debug__" : Str)) = false := by decide) (he : starEach (e :: es) X.env = (false, eval e X.env) :: starEach es X.env := by rfl) (hpl : (backTo pos (starEach es X.env)).any (·.1) = false := by rfl) :
    PE X (.Call (.Name x q) (e :: es) [] pos) (tCallS (sp p) E t) := by
  refine ⟨fun pins s σ H Q I h => ?_⟩
  refine wpAny_Call_Name_kw (ld_glob I hg hm ?_ hdb)
  refine PySem.W.callWith_K (h₀ := X.base) I.ok.mod.kin hk (thn (ha.run pos pins s σ H _ I h) fun us s1 ⟨vs, H1, I1, r, q⟩ => ⟨I1.kIn, ?_⟩) he hpl
  exact run_fnE F hr hot hp hb (hx σ) I1 r q
end
/-- such a def -/
theorem okE {P : Program} {w : World} {K : PySem.W.Frag} {mg : Str → Option Value} {base : Heap} {x qual : Str} {st : Stmt} {f : Addr} {fd : FuncData} {N ps : List Str} {k : Nat} {sp : Addr × Obj → Sp} (F : Fun K x qual st f fd) (S : FnScope N ps (defScope st)) (hl : ∀ p vs H Q E, sp p vs H Q E → vs.length = ps.length)
    (hb : ∀ (cdv : Value) (A : Around) (outer : List Env) (s : Shared) (H : Hp) (vs : List V) (Q : VK) (E : XK) (p : Addr × Obj), Hot1 A p → RoomH k (A.deeper (envOfC qual (defScope st) s.heap.objs.size f cdv)) → sp p vs H Q E →
      ∃ u, PSs (cxH CX0 P w K mg base N qual (defScope st) f cdv A outer s H E p) (defBody st) u ∧ u { nx := fun _ G => Q .non G, rt := Q } (L2.start N vs) H) : FnE P w K mg base CX0 (k + 1) f fd ps sp := by
  obtain ⟨c1, c2, c3, c4, c5, c6, c7, c8, c9, rfl, lk, hcd⟩ := F.ex
  exact fn_ofE lk hcd S hl fun A outer s H vs Q E p hot hr hsp => hb c7 A outer s H vs Q E p hot hr hsp
theorem FnE.hot {P : Program} {w : World} {K : PySem.W.Frag} {mg : Str → Option Value} {base : Heap} {CX : CXT} {k : Nat} {f : Addr} {fd : FuncData} {ps : List Str} {sp : Sp} (F : FnE P w K mg base CX k f fd ps (fun _ => sp)) : FnH P w K mg base CX k f fd ps sp :=
  ⟨fun vs H Q E h => F.len (0, ⟨.none, none, .cell none, #[]⟩) vs H Q E h, fun A outer s H args us vs Q E p => F.run A outer s H args us vs Q E p⟩
/-- isinstance(e, c), e the handled error at p -/
def rIsP (K : PySem.W.Frag) (p : Addr × Obj) : List V → Hp → VK → Prop := fun xs H Q => ∃ (D : Addr) (c : V) (cv : Value) (b : Bool) (dd : Addr) (fs : List (Str × V)),
  ExcC K D ∧ Zc (.ref D) (some dd) p.2 ∧ xs = [.ref p.1, c] ∧ (∀ u, RelV c u → u = cv) ∧ PySem.W.kitOne K (.ref D) cv = some b ∧ H dd = some (.xd fs) ∧ Q (.bl b) H
theorem call_isP {X : Cx} {p : Addr × Obj} (hp : p ∈ X.pn) (hot : Hot1 X.A p) : CallR X (.builtin "isinstance") (rIsP X.K p) := by
  intro pins s σ H xs us Q I r h
  obtain ⟨D, c, cv, b, dd, fs, C, hz, rfl, hcv, e, ea, q⟩ := h
  obtain ⟨a, oe⟩ := p
  obtain ⟨u1, u2, rfl, r1, r2⟩ := vals2 r
  obtain rfl : u1 = Value.ref a := r1
  have ec := hcv _ r2; subst ec
  obtain ⟨hget, _⟩ := I.pin (a, oe) (List.mem_append_left _ hp)
  obtain ⟨_, vs, hv, _⟩ := hot
  have hx : ObjOk X.prog X.w H s.heap dd (.xd fs) := I.hok dd _ ea
  obtain ⟨mA, hns, hr⟩ := hx
  obtain ⟨od, ho, hl⟩ := lookIn_ns hns
  have J : PySem.W.InstAt s.heap a oe D (some od) := ⟨hget, hz.1, by unfold PySem.W.notCls; rw [show oe.data = _ from hv] <;> rfl, by rw [hz.2]; exact ho⟩
  exact PySem.W.kia_one (kit_err C) I.kIn J e (fun z => nomatch z) fun tk => ⟨.bl b, H, I.kept (t' := tk) fun _ _ z => z, rfl, q⟩
/-- e.f, e the handled error at p -/
def tXp (K : PySem.W.Frag) (p : Addr × Obj) (f : Str) (te : TE) : TE := fun σ H Q => te σ H fun x H1 => x = .ref p.1 ∧ ∃ (C dd : Addr) (fs : List (Str × V)) (v : V), XfC K C ∧ PySem.W.findIn K (.ref C) f = some none ∧ Zc (.ref C) (some dd) p.2 ∧ H1 dd = some (.xd fs) ∧ fs.lookup f = some v ∧ Q v H1
theorem pe_xp {X : Cx} {p : Addr × Obj} {e : Expr} {te : TE} {pos : Pos} {n : Str} (hp : p ∈ X.pn) (hot : Hot1 X.A p) (he : PE X e te) (hb : attributeBase e n X.env (eval e X.env) = eval e X.env := by rfl) : PE X (.Attribute e n pos) (tXp X.K p n te) := by
  refine ⟨fun pins s σ H Q I h => ?_⟩
  refine attr_of hb (thn (he.run pins s σ H _ I h) fun u s1 hh => ?_)
  obtain ⟨x, H1, I1, rx, ex, C, dd, fs, v, T, hno, hz, ea, l, q⟩ := hh
  obtain ⟨a, oe⟩ := p
  subst ex
  obtain rfl : u = Value.ref a := rx
  obtain ⟨ha, _⟩ := I1.pin (a, oe) (List.mem_append_left _ hp)
  obtain ⟨_, vs, hd, _⟩ := hot
  have hx : ObjOk X.prog X.w H1 s1.heap dd (.xd fs) := I1.hok dd _ ea
  obtain ⟨mA, hns, hr⟩ := hx
  obtain ⟨od, ho, hl⟩ := lookIn_ns hns
  obtain ⟨u, hu, ru⟩ := RelO.some_of (v := v) (o := mA n) (by rw [← l]; exact hr n)
  have J : PySem.W.InstAt s1.heap a oe C (some od) := ⟨ha, hz.1, by unfold PySem.W.notCls; rw [show oe.data = _ from hd] <;> rfl, by rw [hz.2]; exact ho⟩
  exact HandSPX.exc_get I1.kIn J T.ga T.gg T.exC (PySem.W.findObj_own T.hdC hno rfl (by rw [hl, hu])) (handed_of ru) ⟨v, H1, I1.tok _, ru, q⟩
end RH

set_option maxRecDepth 100000
set_option maxHeartbeats 8000000
namespace K35
section
open PySem PySem.Spec PyProof.Rows L2 PySem.W PySem.Calls
open RH (kit_err)
/-- isinstance(e, c), e the caught error at a, of class D, its own dict at dd -/
def rIsD (K : PySem.W.Frag) (D a : Addr) (cls : Value) (d : Option Addr) : List V → Hp → VK → Prop := fun xs H Q => ∃ (c : V) (cv : Value) (b : Bool) (dd : Addr) (fs : List (Str × V)),
  cls = .ref D ∧ xs = [.ref a, c] ∧ (∀ u, RelV c u → u = cv) ∧ kitOne K (.ref D) cv = some b ∧ d = some dd ∧ H dd = some (.xd fs) ∧ Q (.bl b) H
theorem call_isD {X : Cx} {a D : Addr} {oe : Obj} {cls : Value} {d : Option Addr} {pn : List (Addr × Obj)} (C : ExcC X.K D) (hz : Zc cls d oe) (hf : ∃ vs, oe.data = .fields vs) : CallR (X.suite a ((a, oe) :: pn)) (.builtin "isinstance") (rIsD X.K D a cls d) := by
  intro pins s σ H xs us Q I r h
  obtain ⟨c, cv, b, dd, fs, ecl, rfl, hcv, e, ed, ea, q⟩ := h
  subst ecl
  subst ed
  obtain ⟨u1, u2, rfl, r1, r2⟩ := vals2 r
  obtain rfl : u1 = Value.ref a := r1
  have ec := hcv _ r2; subst ec
  obtain ⟨hget, _⟩ := I.pin (a, oe) (List.mem_append_left _ List.mem_cons_self)
  obtain ⟨vs, hv⟩ := hf
  have hx : ObjOk X.prog X.w H s.heap dd (.xd fs) := I.hok dd _ ea
  obtain ⟨mA, hns, hr⟩ := hx
  obtain ⟨od, ho, hl⟩ := lookIn_ns hns
  have J : InstAt s.heap a oe D (some od) := ⟨hget, hz.1, by unfold PySem.W.notCls; rw [hv] <;> rfl, by rw [hz.2]; exact ho⟩
  exact kia_one (kit_err C) I.kIn J e (fun z => nomatch z) fun tk => ⟨.bl b, H, I.kept (t' := tk) fun _ _ z => z, rfl, q⟩
end
open PySem PySem.Spec PyProof.Rows L2
theorem setAll_len {xs ys : List V} (js : List Nat) : (setAll xs ys js).length = xs.length := by
  unfold setAll
  induction js generalizing xs with
  | nil => rfl
  | cons j js ih => rw [List.foldl_cons, ih, List.length_set]
theorem setAll_odd {H : Hp} {ys : List V} (hy : ∀ y ∈ ys, OddV H y) : ∀ (js : List Nat) {xs : List V}, (∀ j ∈ js, j < ys.length) → (∀ x ∈ xs, OddV H x) → ∀ x ∈ setAll xs ys js, OddV H x
  | [], xs, _, h => h
  | j :: js, xs, hj, h => setAll_odd hy js (fun i hi => hj i (List.mem_cons_of_mem _ hi)) (xs := xs.set j (ys.getD j .non)) fun x hx => by
    rcases List.mem_or_eq_of_mem_set hx with hx | rfl
    · exact h x hx
    · have hlt := hj j (List.mem_cons_self ..)
      rw [List.getD_eq_getElem?_getD, List.getElem?_eq_getElem hlt]
      exact hy _ (List.getElem_mem hlt)
theorem ways_lt : ∀ k ≤ 4, ∀ j ∈ ways.getD k [], j < 11 := by decide
theorem setAll_at {xs ys : List V} {js : List Nat} {i j : Nat} (h : js[i]? = some j) : setAll xs ys (js.take (i + 1)) = (setAll xs ys (js.take i)).set j (ys.getD j .non) := by
  unfold setAll
  rw [List.take_add_one, h]
  show List.foldl _ xs (js.take i ++ [j]) = _
  rw [List.foldl_append]; rfl
theorem badF_good {xs : List V} (hl : xs.length = 11) (hb : badF 0 xs = none) : Good xs := by
  have go : ∀ n k, k + n = 11 → badF k (xs.drop k) = none → ∀ i v, k ≤ i → xs[i]? = some v → fitsB i v = true := by
    intro n
    induction n with
    | zero =>
      intro k hk _ i v hi hv
      have := (List.getElem?_eq_some_iff.mp hv).1
      omega
    | succ n ih =>
      intro k hk hbk i v hi hv
      obtain ⟨u, hu⟩ : ∃ u, xs[k]? = some u := ⟨_, List.getElem?_eq_getElem (by omega)⟩
      rw [badF_at hu] at hbk
      cases hf : fitsB k u with
      | false => rw [hf, if_neg Bool.false_ne_true] at hbk; cases hbk
      | true =>
        rw [hf, if_pos rfl] at hbk
        by_cases e : k = i
        · subst e
          rw [hu] at hv; cases hv; exact hf
        · exact ih (k + 1) (by omega) hbk i v (by omega) hv
  exact ⟨hl, fun k v h => go 11 0 rfl hb k v (Nat.zero_le _) h⟩
theorem Good.leaf {xs : List V} (g : Good xs) : ∀ (i : Nat) (v : V), xs[i]? = some v → Leaf v := fun i v h => by
  rcases g.flat v (List.mem_of_getElem? h) with ⟨i, rfl⟩ | ⟨b, rfl⟩
  · exact .inr (.inl ⟨i, rfl⟩)
  · exact .inr (.inr ⟨b, rfl⟩)
theorem same_flat {H : Hp} {a b : Addr} {xs : List V} (hn : xs.length ≤ 1000) (hx : ∀ (i : Nat) v, xs[i]? = some v → Leaf v) (h : (H a = some (.lst xs) ∧ H b = some (.lst xs)) ∨ (H a = some (.tup xs) ∧ H b = some (.tup xs))) : SameV 1 H (.ref a) (.ref b) := by
  refine .inr ⟨a, b, xs, xs, rfl, rfl, h, rfl, hn, fun i u v e1 e2 => ?_⟩
  rw [e1] at e2; cases e2
  exact ⟨rfl, hx i u e1⟩
section
variable {P : Program} {w : World} {K : PySem.W.Frag} {mg : Str → Option Value} {base : Heap}
/-! ### _law_some_due -/
def spSD : Sp := fun vs H Q _ => ∃ (a b : Addr) (xs ys : List V) (k : Nat), vs = [.ref a, .int (k : Int), .ref b] ∧ k ≤ 4 ∧ H a = some (.lst xs) ∧ xs.length = 11 ∧ (∀ x ∈ xs, OddV H x) ∧ H b = some (.lst ys) ∧ ys.length = 11 ∧ (∀ y ∈ ys, OddV H y) ∧
  (∀ j, badF 0 (setAll xs ys (ways.getD k [])) = some j → ∀ H' t, Same H H' → H' t = some (.tup [.str (Str.ofString "no"), .str (names.getD j (Str.ofString "")), .bl true]) → Q (.ref t) H') ∧
  (badF 0 (setAll xs ys (ways.getD k [])) = none → ∀ H' p, Same H H' → H p = none → H' p = some (.lst (setAll xs ys (ways.getD k []))) → Q (.ref p) H')
abbrev pSd : List Str := ["_law_values_here", "_law_way", "_law_v"]
abbrev nSd : List Str := ["_law_values_here", "_law_way", "_law_v", "_law_merged", "_law_k"]
theorem scSomeD : FnScope nSd pSd (defScope sSomeD) := ⟨rfl, rfl, rfl, by decide +kernel, rfl, by decide +kernel, by decide +kernel⟩
theorem ok_somed {f f_due : Addr} {fd fd_due : FuncData} (B : Blt mg) (F : Fun K "_law_some_due" "_law_some_due" sSomeD f fd) (F_due : Fun K "_law_due" "_law_due" sDue f_due fd_due) (b_due : Binds K fd_due ["_law_values_here"] []) (g_due : mg "_law_due" = some (.ref f_due)) (G_due : FnOk P w K mg base CX0 3 f_due fd_due ["_law_values_here"] spDue) : FnOk P w K mg base CX0 4 f fd pSd spSD := by
  refine F.ok scSomeD (fun vs H Q E h => ?_) (fun cdv A0 outer s H vs Q E hr h => ?_)
  · obtain ⟨a, b, xs, ys, k, rfl, _⟩ := h; rfl
  · obtain ⟨a, b, xs, ys, k, rfl, hk, ha, hl, ho, hb, hl2, ho2, qe, q⟩ := h
    refine ⟨_, (pss_cons (ps_set (i := 3) scSomeD.nd rfl (.inl rfl) (pe_callTy call_list_of (by rfl) B.list (by decide +kernel) (pa_cons (pv 0) pa_nil)))
      (pss_cons (ps_for (PassesOwn.never) rfl (pi_list (pe_ix ix_list (pe_lst (pa_cons (pe_lst (pa_cons pe_int (pa_cons pe_int (pa_cons pe_int pa_nil)))) (pa_cons (pe_lst (pa_cons pe_int (pa_cons pe_int pa_nil))) (pa_cons (pe_lst (pa_cons pe_int (pa_cons pe_int (pa_cons pe_int (pa_cons pe_int pa_nil))))) (pa_cons (pe_lst (pa_cons pe_int (pa_cons pe_int (pa_cons pe_int pa_nil)))) (pa_cons (pe_lst pa_nil) pa_nil)))))) (pv 1) (fun _ _ => rfl))) (pg_name (i := 4) scSomeD.nd rfl (.inl rfl))
      (pss_one (ps_asg (pe_ix ix_list (pv 2) (pv 4) (fun _ _ => rfl)) (pg_sub (pv 3) (pv 4) set_list))))
      (pss_one (ps_ret (pe_call G_due hr (by rfl) g_due F_due.kp b_due .nil pass0 (pa_cons (pv 3) pa_nil)))))), ?_⟩
    refine ⟨.ref a, rfl, a, _, rfl, .inl (SqL.of ha), fun M nM => ?_⟩
    have s0 := same_new nM (o := .lst xs)
    have hM : (upd H M (.lst xs)) M = some (.lst xs) := upd_same
    generalize upd H M (.lst xs) = H0 at s0 hM ⊢
    refine ⟨by show 3 ≤ sizeLine; decide, fun l0 n0 => ?_⟩
    have t0 := same_new n0 (o := .lst [.int 9, .int 0, .int 7])
    have h0 : (upd H0 l0 (.lst [.int 9, .int 0, .int 7])) l0 = some (.lst [.int 9, .int 0, .int 7]) := upd_same
    generalize upd H0 l0 (.lst [.int 9, .int 0, .int 7]) = H1 at t0 h0 ⊢
    refine ⟨by show 2 ≤ sizeLine; decide, fun l1 n1 => ?_⟩
    have t1 := same_new n1 (o := .lst [.int 10, .int 3])
    have h1 : (upd H1 l1 (.lst [.int 10, .int 3])) l1 = some (.lst [.int 10, .int 3]) := upd_same
    generalize upd H1 l1 (.lst [.int 10, .int 3]) = H2 at t1 h1 ⊢
    refine ⟨by show 4 ≤ sizeLine; decide, fun l2 n2 => ?_⟩
    have t2 := same_new n2 (o := .lst [.int 8, .int 1, .int 4, .int 2])
    have h2 : (upd H2 l2 (.lst [.int 8, .int 1, .int 4, .int 2])) l2 = some (.lst [.int 8, .int 1, .int 4, .int 2]) := upd_same
    generalize upd H2 l2 (.lst [.int 8, .int 1, .int 4, .int 2]) = H3 at t2 h2 ⊢
    refine ⟨by show 3 ≤ sizeLine; decide, fun l3 n3 => ?_⟩
    have t3 := same_new n3 (o := .lst [.int 6, .int 5, .int 10])
    have h3 : (upd H3 l3 (.lst [.int 6, .int 5, .int 10])) l3 = some (.lst [.int 6, .int 5, .int 10]) := upd_same
    generalize upd H3 l3 (.lst [.int 6, .int 5, .int 10]) = H4 at t3 h3 ⊢
    refine ⟨by show 0 ≤ sizeLine; decide, fun l4 n4 => ?_⟩
    have t4 := same_new n4 (o := .lst [])
    have h4 : (upd H4 l4 (.lst [])) l4 = some (.lst []) := upd_same
    generalize upd H4 l4 (.lst []) = H5 at t4 h4 ⊢
    refine ⟨by show 5 ≤ sizeLine; decide, fun L nL => ?_⟩
    have t5 := same_new nL (o := .lst [.ref l0, .ref l1, .ref l2, .ref l3, .ref l4])
    have hL : (upd H5 L (.lst [.ref l0, .ref l1, .ref l2, .ref l3, .ref l4])) L = some (.lst [.ref l0, .ref l1, .ref l2, .ref l3, .ref l4]) := upd_same
    generalize upd H5 L (.lst [.ref l0, .ref l1, .ref l2, .ref l3, .ref l4]) = H6 at t5 hL ⊢
    obtain ⟨lk, e1, e2⟩ : ∃ lk : Addr, atI [V.ref l0, .ref l1, .ref l2, .ref l3, .ref l4] (k : Int) = some (.ref lk) ∧ H6 lk = some (.lst ((ways.getD k []).map fun j : Nat => V.int (j : Int))) := by
      match k, hk with
      | 0, _ => exact ⟨l0, rfl, t5 _ _ (t4 _ _ (t3 _ _ (t2 _ _ (t1 _ _ h0))))⟩
      | 1, _ => exact ⟨l1, rfl, t5 _ _ (t4 _ _ (t3 _ _ (t2 _ _ h1)))⟩
      | 2, _ => exact ⟨l2, rfl, t5 _ _ (t4 _ _ (t3 _ _ h2))⟩
      | 3, _ => exact ⟨l3, rfl, t5 _ _ (t4 _ _ h3)⟩
      | 4, _ => exact ⟨l4, rfl, t5 _ _ h4⟩
    have tA := t0.trans (t1.trans (t2.trans (t3.trans (t4.trans t5))))
    have sA := s0.trans tA
    have hM6 := tA _ _ hM
    have nMl : lk ≠ M := fun e => by
      subst e
      have hn : ∀ {o}, H0 lk = some o → o = .lst xs := fun h => by rw [hM] at h; exact (Option.some.inj h).symm
      rw [hM6] at e2
      have e3 : xs = (ways.getD k []).map fun j : Nat => V.int (j : Int) := HO.lst.inj (Option.some.inj e2)
      have e4 : xs.length = (ways.getD k []).length := by rw [e3, List.length_map]
      have e5 : ∀ k ≤ 4, (ways.getD k []).length < 11 := by decide
      have := e5 k hk
      omega
    refine ⟨.int (k : Int), rfl, L, _, _, _, rfl, rfl, SqL.of hL, e1, lk, rfl, ⟨_, SqL.of e2⟩, ?_⟩
    generalize hjs : ways.getD k [] = js at qe q e2 nMl
    have jlt : ∀ j ∈ js, j < 11 := by rw [← hjs]; exact ways_lt k hk
    refine for_list (K := K) (a := lk) (xs := js.map fun j : Nat => V.int (j : Int)) (fun i σ H' => ∃ y4 : Option V, σ = [some (.ref a), some (.int (k : Int)), some (.ref b), some (.ref M), y4] ∧ (∀ x o, x ≠ M → H6 x = some o → H' x = some o) ∧ H' M = some (.lst (setAll xs ys (js.take i)))) ⟨none, rfl, fun _ _ _ e => e, hM6⟩ (fun i σ H' _ ⟨_, _, sm, _⟩ => SqL.of (sm _ _ nMl e2)) ?_ ?_
    · rintro i x σ H' hi ⟨y4, rfl, sm, hM'⟩
      rw [List.getElem?_map] at hi
      obtain ⟨j, hj, rfl⟩ := Option.map_eq_some_iff.mp hi
      have hj11 := jlt j (List.mem_of_getElem? hj)
      have hy : ys[j]? = some (ys.getD j .non) := by rw [List.getD_eq_getElem?_getD, List.getElem?_eq_getElem (by omega)]; rfl
      have nb : b ≠ M := ne_of_none hb nM
      refine ⟨.ref b, rfl, .int (j : Int), rfl, b, _, _, _, rfl, rfl, SqL.of (sm _ _ nb (sA _ _ hb)), atI_nat hy, .ref M, rfl, .int (j : Int), rfl, M, _, _, j, rfl, rfl, hM', ?_, _, rfl, fun x o hne e => ?_, ?_⟩
      · exact Evl.ixN_nat (by rw [setAll_len, hl]; omega)
      · rw [upd_ne hne]; exact sm _ _ hne e
      · rw [upd_same, setAll_at hj]
    · rintro σ H' ⟨y4, rfl, sm, hM'⟩
      rw [List.take_of_length_le (by rw [List.length_map]; exact Nat.le_refl _)] at hM'
      have sF : Same H H' := fun x o e => sm _ _ (ne_of_none e nM) (sA _ _ e)
      exact ⟨.ref M, rfl, M, _, rfl, hM', (setAll_len js).trans hl, fun x hx => (setAll_odd ho2 js (fun j hj => by rw [hl2]; exact jlt j hj) ho x hx).same sF, fun j hj H2 t s2 ht => qe j hj H2 t (sF.trans s2) ht, fun hb2 H2 p s2 hp hp2 => q hb2 H2 p (sF.trans s2) (sF.free hp) hp2⟩
/-! ### the errors of the law -/
structure Ers (K : PySem.W.Frag) (mg : Str → Option Value) (CB CT CL : Addr) : Prop where
  gL : mg "LaidError" = some (.ref CL)
  gB : mg "BadBook" = some (.ref CB)
  gT : mg "TooLarge" = some (.ref CT)
  xB : ExcC K CB
  nB : PySem.W.findIn K (.ref CB) "field" = some none
  bb : PySem.W.exmOne K (.ref CB) (.ref CB) = some true
  bL : PySem.W.kitOne K (.ref CB) (.ref CL) = some true
  bV : PySem.W.kitOne K (.ref CB) (.type "ValueError") = some true
  bT : PySem.W.kitOne K (.ref CB) (.ref CT) = some false
/-! ### _law_made -/
def spMade (C : Addr) : Sp := fun vs H Q _ => ∃ (a : Addr) (xs : List V), vs = [.ref a] ∧ H a = some (.lst xs) ∧ xs.length = 11 ∧ (∀ x ∈ xs, OddV H x) ∧
  (∀ k, badF 0 xs = some k → ∀ H' t, Same H H' → H' t = some (.tup [.str (Str.ofString "no"), .str (names.getD k (Str.ofString "")), .bl true]) → Q (.ref t) H') ∧
  (badF 0 xs = none → ∀ H' p, Same H H' → H p = none → H' p = some (.lst xs) → Q (.ref p) H')
theorem scMade : FnScope ["_law_v", "e"] ["_law_v"] (defScope sMade) := ⟨rfl, rfl, rfl, by decide +kernel, rfl, by decide +kernel, by decide +kernel⟩
theorem ok_made {C CB CT CL f f_told f_book : Addr} {fd fd_told fd_book : FuncData} (B : Blt mg) (R : Ers K mg CB CT CL) (F : Fun K "_law_made" "_law_made" sMade f fd) (F_told : Fun K "_law_told" "_law_told" sTold f_told fd_told) (b_told : Binds K fd_told ["_law_book_here"] []) (g_told : mg "_law_told" = some (.ref f_told)) (G_told : FnOk P w K mg base CX0 1 f_told fd_told ["_law_book_here"] (spTold C))
    (F_book : Fun K "_law_book" "_law_book" sBook f_book fd_book) (b_book : Binds K fd_book ["_law_v"] []) (g_book : mg "_law_book" = some (.ref f_book)) (G_book : FnOk P w K mg base (L2N.CX P w) 6 f_book fd_book ["_law_v"] (spLB C CB)) : FnOk P w K mg base CX0 7 f fd ["_law_v"] (spMade C) := by
  have xB : XfC K CB := ⟨R.xB.hg, R.xB.hk, R.xB.hs, R.xB.hd⟩
  refine F.ok scMade (fun vs H Q E h => ?_) (fun cdv A0 outer s H vs Q E hr h => ?_)
  · obtain ⟨a, xs, rfl, _⟩ := h; rfl
  · obtain ⟨a, xs, rfl, ha, hl, ho, qe, q⟩ := h
    have hr1 : Room 1 _ := hr.mono (by decide)
    refine ⟨_, (pss_one (L2N.ps_try_as (i := 1) (Wout := fun _ _ _ _ => False) (ts := fun a cls d => _) rfl rfl scMade.nd rfl rfl ⟨rfl, by decide, .inl R.gB⟩ RN.takes0N
        (fun W pn xe tk _ => pss_one (ps_ret (pe_call G_told hr1 (by rfl) g_told F_told.kp b_told .nil pass0 (pa_cons (pe_callSD G_book hr (by rfl) g_book F_book.kp b_book .nil (fun σ => L2N.passAt tk σ) (pa_cons (pv 0) pa_nil)) pa_nil))))
        (fun a oe cls d pn hz hf => pss_one (ps_ret (pe_tup (pa_cons pe_str (pa_cons (pe_xf xB R.nB hz.zc hf (pv 1)) (pa_cons (pe_and (pe_callB (call_isD R.xB hz.zc hf) (by rfl) B.isi (by decide +kernel) (pa_cons (pv 1) (pa_cons (pe_glob (v := .ref CL) (by rfl) R.gL rfl) pa_nil))) (pe_and (pe_callB (call_isD R.xB hz.zc hf) (by rfl) B.isi (by decide +kernel) (pa_cons (pv 1) (pa_cons (pe_bltn (v := .ty "ValueError") (by rfl) B.ve (by decide +kernel) rfl) pa_nil))) (pe_one (pe_not (pe_callB (call_isD R.xB hz.zc hf) (by rfl) B.isi (by decide +kernel) (pa_cons (pv 1) (pa_cons (pe_glob (v := .ref CT) (by rfl) R.gT rfl) pa_nil))))))) pa_nil)))))))), ?_⟩
    refine ⟨.ref a, rfl, a, xs, rfl, ha, hl, ho, fun k hk H1 d s1 hd => ?_, fun hb H1 r s1 hr' hB => ⟨r, xs, rfl, hB, hl, fun H2 l s2 hn hl2 => q hb H2 l (s1.trans s2) (s1.free hn) hl2⟩⟩
    refine ⟨true, R.bb, fun _ e he => ?_, fun z => nomatch z⟩
    have sd := s1.trans (same_new hd (o := .xd [("field", .str (names.getD k (Str.ofString "")))]))
    refine ⟨.ref e, rfl, rfl, rfl, d, _, .str (names.getD k (Str.ofString "")), rfl, upd_same, rfl, ?_⟩
    refine ⟨.ref e, rfl, .ref CL, .ref CL, true, d, _, rfl, rfl, fun u hu => hu, R.bL, rfl, upd_same, _, rfl, iteT ⟨.ref e, rfl, .ty "ValueError", .type "ValueError", true, d, _, rfl, rfl, fun u hu => hu, R.bV, rfl, upd_same, _, rfl, iteT ⟨.ref e, rfl, .ref CT, .ref CT, false, d, _, rfl, rfl, fun u hu => hu, R.bT, rfl, upd_same, _, rfl, ?_⟩⟩⟩
    exact ⟨by show 3 ≤ sizeLine; decide, fun t nt => qe k hk _ t (sd.trans (same_new nt)) upd_same⟩
end
end K35

set_option maxRecDepth 100000
set_option maxHeartbeats 8000000
namespace K35
open PySem PySem.Spec PyProof.Rows L2
section
variable {P : Program} {w : World} {K : PySem.W.Frag} {mg : Str → Option Value} {base : Heap}
theorem leaf_no {j : Nat} : ∀ (i : Nat) (v : V), [V.str (Str.ofString "no"), .str (names.getD j (Str.ofString "")), .bl true][i]? = some v → Leaf v := fun i v h => by
  match i with
  | 0 => cases h; exact .inl ⟨_, rfl⟩
  | 1 => cases h; exact .inl ⟨_, rfl⟩
  | 2 => cases h; exact .inr (.inr ⟨_, rfl⟩)
  | i + 3 => simp at h
/-! ### _law_changes_are -/
def spCa (C : Addr) : Sp := fun vs H Q _ => ∃ (p a k b : Addr) (xs ys : List V) (is : List Int) (i0 i1 : Nat), vs = [.ref p, .ref a, .ref k, .ref b] ∧ BookA C H p xs ∧ Good xs ∧ H a = some (.lst xs) ∧ H k = some (.lst (is.map V.int)) ∧ is[0]? = some (i0 : Int) ∧ is[1]? = some (i1 : Int) ∧ i0 ≤ 10 ∧ i1 ≤ 4 ∧
  H b = some (.lst ys) ∧ ys.length = 11 ∧ (∀ y ∈ ys, OddV H y) ∧ ∀ H', Same H H' → Q (.bl true) H'
abbrev pCa : List Str := ["_law_book_here", "_law_values_here", "_law_pick", "_law_v"]
abbrev nCa : List Str := ["_law_book_here", "_law_values_here", "_law_pick", "_law_v", "_law_merged", "_law_told_here", "e"]
theorem scCa : FnScope nCa pCa (defScope sChanges) := ⟨rfl, rfl, rfl, by decide +kernel, rfl, by decide +kernel, by decide +kernel⟩
theorem ok_changes {C CB CT CL f f_told f_one f_some f_due f_somed f_same : Addr} {fd fd_told fd_one fd_some fd_due fd_somed fd_same : FuncData} (B : Blt mg) (R : Ers K mg CB CT CL) (F : Fun K "_law_changes_are" "_law_changes_are" sChanges f fd)
    (F_told : Fun K "_law_told" "_law_told" sTold f_told fd_told) (b_told : Binds K fd_told ["_law_book_here"] []) (g_told : mg "_law_told" = some (.ref f_told)) (G_told : FnOk P w K mg base CX0 1 f_told fd_told ["_law_book_here"] (spTold C))
    (F_one : Fun K "_law_one_changed" "_law_one_changed" sOneC f_one fd_one) (b_one : Binds K fd_one pOn []) (g_one : mg "_law_one_changed" = some (.ref f_one)) (G_one : FnOk P w K mg base (L2N.CX P w) 7 f_one fd_one pOn (spOne C CB))
    (F_some : Fun K "_law_some_changed" "_law_some_changed" sSomeC f_some fd_some) (b_some : Binds K fd_some pSo []) (g_some : mg "_law_some_changed" = some (.ref f_some)) (G_some : FnOk P w K mg base (L2N.CX P w) 7 f_some fd_some pSo (spSome C CB))
    (F_due : Fun K "_law_due" "_law_due" sDue f_due fd_due) (b_due : Binds K fd_due ["_law_values_here"] []) (g_due : mg "_law_due" = some (.ref f_due)) (G_due : FnOk P w K mg base CX0 3 f_due fd_due ["_law_values_here"] spDue)
    (F_somed : Fun K "_law_some_due" "_law_some_due" sSomeD f_somed fd_somed) (b_somed : Binds K fd_somed pSd []) (g_somed : mg "_law_some_due" = some (.ref f_somed)) (G_somed : FnOk P w K mg base CX0 4 f_somed fd_somed pSd spSD)
    (F_same : Fun K "_law_same" "_law_same" sSame f_same fd_same) (b_same : Binds K fd_same ["_law_one", "_law_two"] []) (g_same : mg "_law_same" = some (.ref f_same)) (G_same : FnOk P w K mg base CX0 2 f_same fd_same ["_law_one", "_law_two"] (spSame 1)) : FnOk P w K mg base CX0 8 f fd pCa (spCa C) := by
  have xB : XfC K CB := ⟨R.xB.hg, R.xB.hk, R.xB.hs, R.xB.hd⟩
  refine F.ok scCa (fun vs H Q E h => ?_) (fun cdv A0 outer s H vs Q E hr h => ?_)
  · obtain ⟨p, a, k, b, xs, ys, is, i0, i1, rfl, _⟩ := h; rfl
  · obtain ⟨p, a, k, b, xs, ys, is, i0, i1, rfl, hB, hG, ha, hk, e0, e1, l0, l1, hb, hl2, ho2, q⟩ := h
    have hl := hG.1
    have hr1 : Room 1 _ := hr.mono (by decide)
    have hr2 : Room 2 _ := hr.mono (by decide)
    have hr3 : Room 3 _ := hr.mono (by decide)
    have hr4 : Room 4 _ := hr.mono (by decide)
    have p0 : atI (is.map V.int) 0 = some (.int (i0 : Int)) := by show atI _ ((0 : Nat) : Int) = _; exact atI_nat (by rw [List.getElem?_map, e0]; rfl)
    have p1 : atI (is.map V.int) 1 = some (.int (i1 : Int)) := by show atI _ ((1 : Nat) : Int) = _; exact atI_nat (by rw [List.getElem?_map, e1]; rfl)
    have hy : ys[i0]? = some (ys.getD i0 .non) := by rw [List.getD_eq_getElem?_getD, List.getElem?_eq_getElem (by omega)]; rfl
    have ov : OddV H (ys.getD i0 .non) := ho2 _ (List.mem_of_getElem? hy)
    refine ⟨_, (pss_cons (ps_set (i := 4) scCa.nd rfl (.inl rfl) (pe_callTy call_list_of (by rfl) B.list (by decide +kernel) (pa_cons (pv 1) pa_nil)))
      (pss_cons (ps_asg (pe_ix ix_list (pv 3) (pe_ix ix_list (pv 2) pe_int (fun _ _ => rfl)) (fun _ _ => rfl)) (pg_sub (pv 4) (pe_ix ix_list (pv 2) pe_int (fun _ _ => rfl)) set_list))
      (Evl.pss_cut (L2N.ps_try_as (i := 6) (Wout := fun _ _ _ _ => False) (ts := fun a cls d => _) rfl rfl scCa.nd rfl rfl ⟨rfl, by decide, .inl R.gB⟩ RN.takes0N
        (fun W pn xe tk _ => pss_one (ps_set (i := 5) scCa.nd rfl (.inl rfl) (pe_call G_told hr1 (by rfl) g_told F_told.kp b_told .nil pass0 (pa_cons (pe_callSD G_one hr (by rfl) g_one F_one.kp b_one .nil (fun σ => L2N.passAt tk σ) (pa_cons (pv 0) (pa_cons (pe_ix (show IxR _ (rIxL K) from ix_list) (pv 2) pe_int (fun _ _ => rfl)) (pa_cons (pe_ix (show IxR _ (rIxL K) from ix_list) (pv 3) (pe_ix (show IxR _ (rIxL K) from ix_list) (pv 2) pe_int (fun _ _ => rfl)) (fun _ _ => rfl)) pa_nil)))) pa_nil))))
        (fun a oe cls d pn hz hf => pss_one (ps_set (i := 5) scCa.nd rfl (.inl rfl) (pe_tup (pa_cons pe_str (pa_cons (pe_xf xB R.nB hz.zc hf (pv 6)) (pa_cons (pe_callB (call_isD R.xB hz.zc hf) (by rfl) B.isi (by decide +kernel) (pa_cons (pv 6) (pa_cons (pe_glob (v := .ref CL) (by rfl) R.gL rfl) pa_nil))) pa_nil)))))))
      (Evl.pss_cut (ps_if (pt_not (pt_val (pe_call G_same hr2 (by rfl) g_same F_same.kp b_same .nil pass0 (pa_cons (pv 5) (pa_cons (pe_call G_due hr3 (by rfl) g_due F_due.kp b_due .nil pass0 (pa_cons (pv 4) pa_nil)) pa_nil))))) (pss_one (ps_ret pe_bl)) pss_nil)
      (Evl.pss_cut (L2N.ps_try_as (i := 6) (Wout := fun _ _ _ _ => False) (ts := fun a cls d => _) rfl rfl scCa.nd rfl rfl ⟨rfl, by decide, .inl R.gB⟩ RN.takes0N
        (fun W pn xe tk _ => pss_one (ps_set (i := 5) scCa.nd rfl (.inl rfl) (pe_call G_told hr1 (by rfl) g_told F_told.kp b_told .nil pass0 (pa_cons (pe_callSD G_some hr (by rfl) g_some F_some.kp b_some .nil (fun σ => L2N.passAt tk σ) (pa_cons (pv 0) (pa_cons (pe_ix (show IxR _ (rIxL K) from ix_list) (pv 2) pe_int (fun _ _ => rfl)) (pa_cons (pv 3) pa_nil)))) pa_nil))))
        (fun a oe cls d pn hz hf => pss_one (ps_set (i := 5) scCa.nd rfl (.inl rfl) (pe_tup (pa_cons pe_str (pa_cons (pe_xf xB R.nB hz.zc hf (pv 6)) (pa_cons (pe_callB (call_isD R.xB hz.zc hf) (by rfl) B.isi (by decide +kernel) (pa_cons (pv 6) (pa_cons (pe_glob (v := .ref CL) (by rfl) R.gL rfl) pa_nil))) pa_nil)))))))
      (pss_one (ps_ret (pe_and (pe_call G_same hr2 (by rfl) g_same F_same.kp b_same .nil pass0 (pa_cons (pv 5) (pa_cons (pe_call G_somed hr4 (by rfl) g_somed F_somed.kp b_somed .nil pass0 (pa_cons (pv 1) (pa_cons (pe_ix ix_list (pv 2) pe_int (fun _ _ => rfl)) (pa_cons (pv 3) pa_nil)))) pa_nil))) (pe_one (pe_call G_same hr2 (by rfl) g_same F_same.kp b_same .nil pass0 (pa_cons (pe_call G_told hr1 (by rfl) g_told F_told.kp b_told .nil pass0 (pa_cons (pv 0) pa_nil)) (pa_cons (pv 1) pa_nil)))))))))))), ?_⟩
    refine ⟨.ref a, rfl, a, _, rfl, .inl (SqL.of ha), fun M nM => ?_⟩
    have s0 := same_new nM (o := .lst xs)
    have nb : ∀ {x o}, H x = some o → x ≠ M := fun e => ne_of_none e nM
    refine ⟨.ref b, rfl, .ref k, rfl, k, _, 0, .int (i0 : Int), rfl, rfl, SqL.of (s0 _ _ hk), p0, b, _, _, _, rfl, rfl, SqL.of (s0 _ _ hb), atI_nat hy, .ref M, rfl, .ref k, rfl, k, _, 0, .int (i0 : Int), rfl, rfl, SqL.of (s0 _ _ hk), p0, M, _, _, i0, rfl, rfl, upd_same, Evl.ixN_nat (by omega), ?_⟩
    rw [upd_upd]
    have sM : Same H (upd H M (.lst (xs.set i0 (ys.getD i0 .non)))) := same_new nM
    have hM : (upd H M (.lst (xs.set i0 (ys.getD i0 .non)))) M = some (.lst (xs.set i0 (ys.getD i0 .non))) := upd_same
    generalize upd H M (.lst (xs.set i0 (ys.getD i0 .non))) = H2 at sM hM ⊢
    have om : ∀ x ∈ xs.set i0 (ys.getD i0 .non), OddV H x := fun x hx => by
      rcases List.mem_or_eq_of_mem_set hx with hx | rfl
      · exact hG.odd x hx
      · exact ov
    have hm : (xs.set i0 (ys.getD i0 .non)).length = 11 := by rw [List.length_set]; exact hl
    have em : (setAll xs ys (ways.getD i1 [])).length = 11 := (setAll_len _).trans hl
    generalize hmm : xs.set i0 (ys.getD i0 .non) = m at hM om hm
    refine ⟨(fun σ' H' => ∃ t : Addr, σ' = [some (.ref p), some (.ref a), some (.ref k), some (.ref b), some (.ref M), some (.ref t), none] ∧ Same H2 H' ∧ ((∃ j, badF 0 m = some j ∧ H' t = some (.tup [.str (Str.ofString "no"), .str (names.getD j (Str.ofString "")), .bl true])) ∨ (badF 0 m = none ∧ H' t = some (.lst m)))), ?_, ?_⟩
    · refine ⟨.ref p, rfl, .ref k, rfl, k, _, 0, .int (i0 : Int), rfl, rfl, SqL.of (sM _ _ hk), p0, .ref b, rfl, .ref k, rfl, k, _, 0, .int (i0 : Int), rfl, rfl, SqL.of (sM _ _ hk), p0, b, _, _, _, rfl, rfl, SqL.of (sM _ _ hb), atI_nat hy, p, xs, i0, _, rfl, l0, hB.same sM, hl, fun x hx => (hG.odd x hx).same sM, ov.same sM, ?_, ?_⟩
      · rw [hmm]; exact fun j hj H1 d s1 hd => ⟨true, R.bb, fun _ e he => ⟨.ref e, rfl, rfl, rfl, d, _, .str (names.getD j (Str.ofString "")), rfl, upd_same, rfl, .ref e, rfl, .ref CL, .ref CL, true, d, _, rfl, rfl, fun u hu => hu, R.bL, rfl, upd_same, by show 3 ≤ sizeLine; decide, fun t nt => ⟨t, rfl, (s1.trans (same_new hd)).trans (same_new nt), .inl ⟨j, hj, upd_same⟩⟩⟩, fun z => nomatch z⟩
      · rw [hmm]; exact fun hb H1 r s1 hr' hB => ⟨r, m, rfl, hB, hm, fun H2 l s2 hn hl2 => ⟨l, rfl, s1.trans s2, .inr ⟨hb, hl2⟩⟩⟩
    rintro σ' H3 ⟨t, rfl, s3, ht⟩
    have sH3 := sM.trans s3
    have hM3 := s3 _ _ hM
    refine ⟨(fun σ' H' => ∃ t : Addr, σ' = [some (.ref p), some (.ref a), some (.ref k), some (.ref b), some (.ref M), some (.ref t), none] ∧ Same H3 H'), ?_, ?_⟩
    · refine ⟨.ref t, rfl, .ref M, rfl, M, m, rfl, hM3, hm, fun x hx => (om x hx).same sH3, fun j hj H4 t4 s4 ht4 => ?_, fun hb H4 t4 s4 hn ht4 => ?_⟩
      · rcases ht with ⟨j2, hj2, ht⟩ | ⟨hb2, _⟩
        · rw [hj] at hj2; cases hj2
          exact ⟨.ref t, .ref t4, rfl, same_flat (by show 3 ≤ 1000; decide) leaf_no (.inr ⟨s4 _ _ ht, ht4⟩), true, rfl, iteF ⟨t, rfl, s4⟩⟩
        · rw [hj] at hb2; cases hb2
      · rcases ht with ⟨j2, hj2, _⟩ | ⟨_, ht⟩
        · rw [hb] at hj2; cases hj2
        · exact ⟨.ref t, .ref t4, rfl, same_flat (by omega) (badF_good hm hb).leaf (.inl ⟨s4 _ _ ht, ht4⟩), true, rfl, iteF ⟨t, rfl, s4⟩⟩
    rintro σ' H4 ⟨t4, rfl, s4⟩
    have sH4 := sH3.trans s4
    generalize hmm2 : setAll xs ys (ways.getD i1 []) = m2 at em
    refine ⟨(fun σ' H' => ∃ t : Addr, σ' = [some (.ref p), some (.ref a), some (.ref k), some (.ref b), some (.ref M), some (.ref t), none] ∧ Same H4 H' ∧ ((∃ j, badF 0 m2 = some j ∧ H' t = some (.tup [.str (Str.ofString "no"), .str (names.getD j (Str.ofString "")), .bl true])) ∨ (badF 0 m2 = none ∧ H' t = some (.lst m2)))), ?_, ?_⟩
    · refine ⟨.ref p, rfl, .ref k, rfl, k, _, 1, .int (i1 : Int), rfl, rfl, SqL.of (sH4 _ _ hk), p1, .ref b, rfl, p, b, xs, ys, i1, rfl, l1, hB.same sH4, hl, fun x hx => (hG.odd x hx).same sH4, sH4 _ _ hb, hl2, fun y hy => (ho2 y hy).same sH4, ?_, ?_⟩
      · rw [hmm2]; exact fun j hj H1 d s1 hd => ⟨true, R.bb, fun _ e he => ⟨.ref e, rfl, rfl, rfl, d, _, .str (names.getD j (Str.ofString "")), rfl, upd_same, rfl, .ref e, rfl, .ref CL, .ref CL, true, d, _, rfl, rfl, fun u hu => hu, R.bL, rfl, upd_same, by show 3 ≤ sizeLine; decide, fun t nt => ⟨t, rfl, (s1.trans (same_new hd)).trans (same_new nt), .inl ⟨j, hj, upd_same⟩⟩⟩, fun z => nomatch z⟩
      · rw [hmm2]; exact fun hb H1 r s1 hr' hB => ⟨r, m2, rfl, hB, em, fun H2 l s2 hn hl2 => ⟨l, rfl, s1.trans s2, .inr ⟨hb, hl2⟩⟩⟩
    rintro σ' H5 ⟨t5, rfl, s5, ht5⟩
    have sH5 := sH4.trans s5
    refine ⟨.ref t5, rfl, .ref a, rfl, .ref k, rfl, k, _, 1, .int (i1 : Int), rfl, rfl, SqL.of (sH5 _ _ hk), p1, .ref b, rfl, a, b, xs, ys, i1, rfl, l1, sH5 _ _ ha, hl, fun x hx => (hG.odd x hx).same sH5, sH5 _ _ hb, hl2, fun y hy => (ho2 y hy).same sH5, ?_, ?_⟩
    · rw [hmm2]
      intro j hj H6 t6 s6 ht6
      rcases ht5 with ⟨j2, hj2, ht⟩ | ⟨hb2, _⟩
      · rw [hj] at hj2; cases hj2
        exact ⟨.ref t5, .ref t6, rfl, same_flat (by show 3 ≤ 1000; decide) leaf_no (.inr ⟨s6 _ _ ht, ht6⟩), _, rfl, iteT ⟨.ref p, rfl, p, xs, rfl, hB.same (sH5.trans s6), hl, fun H7 l s7 hn7 hl7 => ⟨.ref a, rfl, .ref l, .ref a, rfl, same_flat (by omega) hG.leaf (.inl ⟨hl7, s7 _ _ (s6 _ _ (sH5 _ _ ha))⟩), q H7 ((sH5.trans s6).trans s7)⟩⟩⟩
      · rw [hj] at hb2; cases hb2
    · rw [hmm2]
      intro hb6 H6 t6 s6 hn6 ht6
      rcases ht5 with ⟨j2, hj2, _⟩ | ⟨_, ht⟩
      · rw [hb6] at hj2; cases hj2
      · exact ⟨.ref t5, .ref t6, rfl, same_flat (by omega) (badF_good em hb6).leaf (.inl ⟨s6 _ _ ht, ht6⟩), _, rfl, iteT ⟨.ref p, rfl, p, xs, rfl, hB.same (sH5.trans s6), hl, fun H7 l s7 hn7 hl7 => ⟨.ref a, rfl, .ref l, .ref a, rfl, same_flat (by omega) hG.leaf (.inl ⟨hl7, s7 _ _ (s6 _ _ (sH5 _ _ ha))⟩), q H7 ((sH5.trans s6).trans s7)⟩⟩⟩
/-! ### _law_strange -/
def strangeAt : List Str := [Str.ofString "zoom", Str.ofString "zoom", Str.ofString "spread", Str.ofString "rooms", Str.ofString "zoom"]
def spStr (C : Addr) : Sp := fun vs H Q _ => ∃ (p : Addr) (xs : List V) (k : Nat), vs = [.ref p, .int (k : Int)] ∧ k ≤ 4 ∧ BookA C H p xs ∧ xs.length = 11 ∧ (∀ x ∈ xs, OddV H x) ∧ ∀ H', Same H H' → Q (.str (strangeAt.getD k (Str.ofString ""))) H'
abbrev pSt : List Str := ["_law_book_here", "_law_way"]
abbrev nSt : List Str := ["_law_book_here", "_law_way", "e"]
theorem scStr : FnScope nSt pSt (defScope sStrange) := ⟨rfl, rfl, rfl, by decide +kernel, rfl, by decide +kernel, by decide +kernel⟩
theorem ok_strange {C CB CT CL FT f_chg f : Addr} {mc u : Value} {fd_chg fd : FuncData} (B : Blt mg) (R : Ers K mg CB CT CL) (T : Bok K mg C FT mc u) (F_chg : Fun K "changed" "Book.changed" sChg f_chg fd_chg) (m_chg : Meth K C "changed" f_chg) (G_chg : RY.FnKw P w K mg base (L2N.CX P w) 6 f_chg fd_chg pCh "fields" (spChg C CB))
    (F : Fun K "_law_strange" "_law_strange" sStrange f fd) : FnOk P w K mg base CX0 7 f fd pSt (spStr C) := by
  have xB : XfC K CB := ⟨R.xB.hg, R.xB.hk, R.xB.hs, R.xB.hd⟩
  refine F.ok scStr (fun vs H Q E h => ?_) (fun cdv A0 outer s H vs Q E hr h => ?_)
  · obtain ⟨p, xs, k, rfl, _⟩ := h; rfl
  · obtain ⟨p, xs, k, rfl, hk, hB, hl, ho, q⟩ := h
    obtain ⟨dx, w0, hp, hw⟩ := id hB
    have lkc := lkC hl w0
    obtain ⟨x0, x1, x2, x3, x4, x5, x6, x7, x8, x9, x10, rfl⟩ := len11 hl
    refine ⟨_, (pss_cons (L2N.ps_try_as (i := 2) (Wout := fun _ _ _ _ => False) (ts := fun a cls d => _) rfl rfl scStr.nd rfl rfl ⟨rfl, by decide, .inl R.gB⟩ RN.takes0N
        (fun W pn xe tk _ => (pss_cons (ps_if (pt_cmpR op_eq (pv 1) pe_int (nomark _)) (pss_one (ps_expr (RY.pe_methKw (pv 0) T.cl m_chg G_chg hr (kb_16 F_chg) (by decide +kernel) (by decide) (fun σ => L2N.passAt tk σ) (pk_cons pe_int pk_nil)))) pss_nil) (pss_cons (ps_if (pt_cmpR op_eq (pv 1) pe_int (nomark _)) (pss_one (ps_expr (RY.pe_methKw (pv 0) T.cl m_chg G_chg hr (kb_17 F_chg) (by decide +kernel) (by decide) (fun σ => L2N.passAt tk σ) (pk_cons pe_int (pk_cons pe_int (pk_cons pe_int pk_nil)))))) pss_nil) (pss_cons (ps_if (pt_cmpR op_eq (pv 1) pe_int (nomark _)) (pss_one (ps_expr (RY.pe_methKw (pv 0) T.cl m_chg G_chg hr (kb_18 F_chg) (by decide +kernel) (by decide) (fun σ => L2N.passAt tk σ) (pk_cons pe_int (pk_cons pe_non (pk_cons pe_int pk_nil)))))) pss_nil) (pss_cons (ps_if (pt_cmpR op_eq (pv 1) pe_int (nomark _)) (pss_one (ps_expr (RY.pe_methKw (pv 0) T.cl m_chg G_chg hr (kb_19 F_chg) (by decide +kernel) (by decide) (fun σ => L2N.passAt tk σ) (pk_cons pe_int (pk_cons pe_int pk_nil))))) pss_nil) (pss_one (ps_if (pt_cmpR op_eq (pv 1) pe_int (nomark _)) (pss_one (ps_expr (RY.pe_methKw (pv 0) T.cl m_chg G_chg hr (kb_20 F_chg) (by decide +kernel) (by decide) (fun σ => L2N.passAt tk σ) (pk_cons pe_int (pk_cons pe_int (pk_cons pe_non pk_nil)))))) pss_nil)))))))
        (fun a oe cls d pn hz hf => pss_one (ps_ret (pe_xf xB R.nB hz.zc hf (pv 2))))) (pss_one (ps_ret pe_non))), ?_⟩
    match k, hk with
    | 0, _ => exact ⟨.int 0, rfl, rfl, _, rfl, iteT ⟨.ref p, rfl, p, dx, _, rfl, hp, lkc, rfl, fun d nd => chg_no (zs := [.int 1]) (tl_16 x0 x1 x2 x3 x4 x5 x6 x7 x8 x9 x10 (.int 1)) hB hl ho rfl (by decide +kernel) (by decide) (fun z hz => by simp only [List.mem_cons, List.not_mem_nil, or_false] at hz; rcases hz with rfl <;> first | exact .inl ⟨_, rfl⟩ | exact .inr (.inr (.inl rfl))) nd fun H1 e s1 he => ⟨true, R.bb, fun _ x hx => ⟨.ref x, rfl, rfl, rfl, e, _, .str "zoom", rfl, upd_same, rfl, q _ (s1.trans (same_new he))⟩, fun z => nomatch z⟩⟩⟩
    | 1, _ => exact ⟨.int 1, rfl, rfl, _, rfl, iteF ⟨.int 1, rfl, rfl, _, rfl, iteT ⟨.ref p, rfl, p, dx, _, rfl, hp, lkc, rfl, fun d nd => chg_no (zs := [.int 0, .int 1, .int 2]) (tl_17 x0 x1 x2 x3 x4 x5 x6 x7 x8 x9 x10 (.int 0) (.int 1) (.int 2)) hB hl ho rfl (by decide +kernel) (by decide) (fun z hz => by simp only [List.mem_cons, List.not_mem_nil, or_false] at hz; rcases hz with rfl | rfl | rfl <;> first | exact .inl ⟨_, rfl⟩ | exact .inr (.inr (.inl rfl))) nd fun H1 e s1 he => ⟨true, R.bb, fun _ x hx => ⟨.ref x, rfl, rfl, rfl, e, _, .str "zoom", rfl, upd_same, rfl, q _ (s1.trans (same_new he))⟩, fun z => nomatch z⟩⟩⟩⟩
    | 2, _ => exact ⟨.int 2, rfl, rfl, _, rfl, iteF ⟨.int 2, rfl, rfl, _, rfl, iteF ⟨.int 2, rfl, rfl, _, rfl, iteT ⟨.ref p, rfl, p, dx, _, rfl, hp, lkc, rfl, fun d nd => chg_no (zs := [.int 2, .non, .int 1]) (tl_18 x0 x1 x2 x3 x4 x5 x6 x7 x8 x9 x10 (.int 2) (.non) (.int 1)) hB hl ho rfl (by decide +kernel) (by decide) (fun z hz => by simp only [List.mem_cons, List.not_mem_nil, or_false] at hz; rcases hz with rfl | rfl | rfl <;> first | exact .inl ⟨_, rfl⟩ | exact .inr (.inr (.inl rfl))) nd fun H1 e s1 he => ⟨true, R.bb, fun _ x hx => ⟨.ref x, rfl, rfl, rfl, e, _, .str "spread", rfl, upd_same, rfl, q _ (s1.trans (same_new he))⟩, fun z => nomatch z⟩⟩⟩⟩⟩
    | 3, _ => exact ⟨.int 3, rfl, rfl, _, rfl, iteF ⟨.int 3, rfl, rfl, _, rfl, iteF ⟨.int 3, rfl, rfl, _, rfl, iteF ⟨.int 3, rfl, rfl, _, rfl, iteT ⟨.ref p, rfl, p, dx, _, rfl, hp, lkc, rfl, fun d nd => chg_no (zs := [.int 5, .int 5]) (tl_19 x0 x1 x2 x3 x4 x5 x6 x7 x8 x9 x10 (.int 5) (.int 5)) hB hl ho rfl (by decide +kernel) (by decide) (fun z hz => by simp only [List.mem_cons, List.not_mem_nil, or_false] at hz; rcases hz with rfl | rfl <;> first | exact .inl ⟨_, rfl⟩ | exact .inr (.inr (.inl rfl))) nd fun H1 e s1 he => ⟨true, R.bb, fun _ x hx => ⟨.ref x, rfl, rfl, rfl, e, _, .str "rooms", rfl, upd_same, rfl, q _ (s1.trans (same_new he))⟩, fun z => nomatch z⟩⟩⟩⟩⟩⟩
    | 4, _ => exact ⟨.int 4, rfl, rfl, _, rfl, iteF ⟨.int 4, rfl, rfl, _, rfl, iteF ⟨.int 4, rfl, rfl, _, rfl, iteF ⟨.int 4, rfl, rfl, _, rfl, iteF ⟨.int 4, rfl, rfl, _, rfl, iteT ⟨.ref p, rfl, p, dx, _, rfl, hp, lkc, rfl, fun d nd => chg_no (zs := [.int 41, .int 4, .non]) (tl_20 x0 x1 x2 x3 x4 x5 x6 x7 x8 x9 x10 (.int 41) (.int 4) (.non)) hB hl ho rfl (by decide +kernel) (by decide) (fun z hz => by simp only [List.mem_cons, List.not_mem_nil, or_false] at hz; rcases hz with rfl | rfl | rfl <;> first | exact .inl ⟨_, rfl⟩ | exact .inr (.inr (.inl rfl))) nd fun H1 e s1 he => ⟨true, R.bb, fun _ x hx => ⟨.ref x, rfl, rfl, rfl, e, _, .str "zoom", rfl, upd_same, rfl, q _ (s1.trans (same_new he))⟩, fun z => nomatch z⟩⟩⟩⟩⟩⟩⟩
end
end K35

set_option maxRecDepth 100000
set_option maxHeartbeats 8000000
namespace K35
open PySem PySem.Spec PyProof.Rows L2
theorem passNN {X : Cx} : Passes (L2N.CX X.prog X.w) X E0 := fun _ _ _ _ _ _ _ h => by
  obtain ⟨_, _, _, _, _, _, _, _, _, _, _, _, z⟩ := h
  exact z.elim
section
variable {P : Program} {w : World} {K : PySem.W.Frag} {mg : Str → Option Value} {base : Heap}
def spSameK (K : PySem.W.Frag) : Sp := fun vs H Q _ => ∃ (a b : Addr) (xs : List V) (o : Obj), vs = [.ref a, .ref b] ∧ K.lookup a = some o ∧ o.cls = .type "tuple" ∧ SqT K H a xs ∧ H b = some (.tup xs) ∧ xs.length ≤ 1000 ∧ (∀ (i : Nat) (v : V), xs[i]? = some v → Leaf v) ∧ Q (.bl true) H
theorem ok_sameK {f_same : Addr} {fd_same : FuncData} (B : Blt mg) (F_same : Fun K "_law_same" "_law_same" sSame f_same fd_same) (b_same : Binds K fd_same ["_law_one", "_law_two"] []) (g_same : mg "_law_same" = some (.ref f_same)) : FnOk P w K mg base CX0 2 f_same fd_same ["_law_one", "_law_two"] (spSameK K) := by
  have G_same : FnOk P w K mg base CX0 1 f_same fd_same ["_law_one", "_law_two"] (spSame 0) := ok_same B F_same b_same g_same 0
  refine F_same.ok scSame (fun vs H Q E h => ?_) (fun cdv A outer s H vs Q E hr h => ?_)
  · obtain ⟨a, b, xs, o, rfl, _⟩ := h; rfl
  · obtain ⟨a, b, xs, o, rfl, hko, hkc, ha, hb, hx, hall, q⟩ := h
    refine ⟨_, (pss_cons (ps_if (pt_cmpR op_isN (pv 1) pe_non (nomark _)) (pss_one ps_never) pss_nil)
      (pss_cons (ps_if (pt_val (pe_callB call_isi (by rfl) B.isi (by decide +kernel) (pa_cons (pv 1) (pa_cons (pe_bltn (v := .ty "bool") (by rfl) B.bool (by decide +kernel) rfl) pa_nil)))) (pss_one (ps_ret (pe_and (pe_callB call_isi (by rfl) B.isi (by decide +kernel) (pa_cons (pv 0) (pa_cons (pe_bltn (v := .ty "bool") (by rfl) B.bool (by decide +kernel) rfl) pa_nil))) (pe_one (pe_cmpR op_eq (pv 0) (pv 1) (nomark _)))))) pss_nil)
      (pss_cons (ps_if (pt_val (pe_callB call_isi (by rfl) B.isi (by decide +kernel) (pa_cons (pv 1) (pa_cons (pe_bltn (v := .ty "int") (by rfl) B.int (by decide +kernel) rfl) pa_nil)))) (pss_one (ps_ret (pe_and (pe_callB call_isi (by rfl) B.isi (by decide +kernel) (pa_cons (pv 0) (pa_cons (pe_bltn (v := .ty "int") (by rfl) B.int (by decide +kernel) rfl) pa_nil))) (pe_and (pe_not (pe_callB call_isi (by rfl) B.isi (by decide +kernel) (pa_cons (pv 0) (pa_cons (pe_bltn (v := .ty "bool") (by rfl) B.bool (by decide +kernel) rfl) pa_nil)))) (pe_one (pe_cmpR op_eq (pv 0) (pv 1) (nomark _))))))) pss_nil)
      (pss_cons (ps_if (pt_val (pe_callB call_isi (by rfl) B.isi (by decide +kernel) (pa_cons (pv 1) (pa_cons (pe_bltn (v := .ty "str") (by rfl) B.str (by decide +kernel) rfl) pa_nil)))) (pss_one (ps_ret (pe_and (pe_callB call_isi (by rfl) B.isi (by decide +kernel) (pa_cons (pv 0) (pa_cons (pe_bltn (v := .ty "str") (by rfl) B.str (by decide +kernel) rfl) pa_nil))) (pe_one (pe_cmpR op_eq (pv 0) (pv 1) (nomark _)))))) pss_nil)
      (pss_cons (ps_if (PW.pt (pw_and (pt_val (pe_callB call_isi (by rfl) B.isi (by decide +kernel) (pa_cons (pv 1) (pa_cons (pe_bltn (v := .ty "tuple") (by rfl) B.tuple (by decide +kernel) rfl) pa_nil)))) (pw_and1 (pt_not (pt_val (pe_callB call_isi (by rfl) B.isi (by decide +kernel) (pa_cons (pv 0) (pa_cons (pe_bltn (v := .ty "tuple") (by rfl) B.tuple (by decide +kernel) rfl) pa_nil)))))))) (pss_one ps_never) pss_nil)
      (pss_cons (ps_if (PW.pt (pw_and (pt_val (pe_callB call_isi (by rfl) B.isi (by decide +kernel) (pa_cons (pv 1) (pa_cons (pe_bltn (v := .ty "list") (by rfl) B.list (by decide +kernel) rfl) pa_nil)))) (pw_and1 (pt_not (pt_val (pe_callB call_isi (by rfl) B.isi (by decide +kernel) (pa_cons (pv 0) (pa_cons (pe_bltn (v := .ty "list") (by rfl) B.list (by decide +kernel) rfl) pa_nil)))))))) (pss_one ps_never) pss_nil)
      (pss_cons (ps_if (PW.pt (pw_or (pt_val (pe_callB call_isi (by rfl) B.isi (by decide +kernel) (pa_cons (pv 1) (pa_cons (pe_bltn (v := .ty "tuple") (by rfl) B.tuple (by decide +kernel) rfl) pa_nil)))) (pw_or1 (pt_val (pe_callB call_isi (by rfl) B.isi (by decide +kernel) (pa_cons (pv 1) (pa_cons (pe_bltn (v := .ty "list") (by rfl) B.list (by decide +kernel) rfl) pa_nil)))))))
       (pss_cons (ps_if (pt_cmpR op_ne (pe_callB call_len (by rfl) B.len PySem.boot_len (pa_cons (pv 0) pa_nil)) (pe_callB call_len (by rfl) B.len PySem.boot_len (pa_cons (pv 1) pa_nil)) (nomark _)) (pss_one (ps_ret pe_bl)) pss_nil)
       (pss_cons (ps_for (PassesOwn.never) rfl (pi_range1 (by rfl) B.range (pa_cons (pe_callB call_len (by rfl) B.len PySem.boot_len (pa_cons (pv 1) pa_nil)) pa_nil)) (pg_name (i := 2) scSame.nd rfl (.inl rfl))
        (pss_one (ps_if (pt_not (pt_val (pe_call G_same hr (by rfl) g_same F_same.kp b_same .nil pass0 (pa_cons (pe_ix (ix_list.or ix_tup) (pv 0) (pv 2) (fun _ _ => rfl)) (pa_cons (pe_ix (ix_list.or ix_tup) (pv 1) (pv 2) (fun _ _ => rfl)) pa_nil)))))
         (pss_one (ps_ret pe_bl)) pss_nil)))
       (pss_one (ps_ret pe_bl)))) pss_nil)
      (pss_one ps_never)))))))), ?_⟩
    refine ⟨.ref b, rfl, rfl, _, rfl, iteF ?_⟩
    refine ⟨.ref b, rfl, .ref b, .ty "bool", .type "tuple", .type "bool", false, rfl, .ty "bool", ty_tup hb, kit_ty (by decide +kernel), _, rfl, iteF ?_⟩
    refine ⟨.ref b, rfl, .ref b, .ty "int", .type "tuple", .type "int", false, rfl, .ty "int", ty_tup hb, kit_ty (by decide +kernel), _, rfl, iteF ?_⟩
    refine ⟨.ref b, rfl, .ref b, .ty "str", .type "tuple", .type "str", false, rfl, .ty "str", ty_tup hb, kit_ty (by decide +kernel), _, rfl, iteF ?_⟩
    refine ⟨.ref b, rfl, .ref b, .ty "tuple", .type "tuple", .type "tuple", true, rfl, .ty "tuple", ty_tup hb, kit_ty (by decide +kernel), _, rfl, iteT ?_⟩
    refine ⟨.ref a, rfl, .ref a, .ty "tuple", .type "tuple", .type "tuple", true, rfl, .ty "tuple", (TyX.kTuple hko hkc), kit_ty (by decide +kernel), _, rfl, iteF ?_⟩
    refine ⟨.ref b, rfl, .ref b, .ty "list", .type "tuple", .type "list", false, rfl, .ty "list", ty_tup hb, kit_ty (by decide +kernel), _, rfl, iteF ?_⟩
    refine ⟨.ref b, rfl, .ref b, .ty "tuple", .type "tuple", .type "tuple", true, rfl, .ty "tuple", ty_tup hb, kit_ty (by decide +kernel), _, rfl, iteT ?_⟩
    refine ⟨.ref a, rfl, .ref a, xs.length, rfl, .inr ⟨_, ha, rfl⟩, .ref b, rfl, .ref b, xs.length, rfl, .inr ⟨_, SqT.of hb, rfl⟩, rfl, _, rfl, ?_⟩
    rw [decide_eq_true rfl]
    refine iteF ⟨.ref b, rfl, .ref b, xs.length, rfl, .inr ⟨_, SqT.of hb, rfl⟩, (xs.length : Int), rfl, by omega, by omega, ?_⟩
    rw [Int.toNat_natCast]
    refine for_range (lo := 0) (n := xs.length) (fun n σ H' => ∃ y, σ = [some (.ref a), some (.ref b), y] ∧ H' = H) ⟨none, rfl, rfl⟩ ?_ ?_
    · rintro k σ H' hk ⟨y, rfl, rfl⟩
      have e0 : (0 : Int) + (k : Int) = (k : Int) := by omega
      rw [e0]
      have g1 : xs[k]? = some (xs[k]'(by omega)) := by simp
      have g2 : xs[k]? = some (xs[k]'hk) := by simp
      refine ⟨.ref a, rfl, .int (k : Int), rfl, .inr ⟨a, xs, (k : Int), _, rfl, rfl, ha, atI_nat g1, .ref b, rfl, .int (k : Int), rfl, .inr ⟨b, xs, (k : Int), _, rfl, rfl, SqT.of hb, atI_nat g2, ?_⟩⟩⟩
      exact ⟨_, _, rfl, ⟨rfl, hall k _ g1⟩, true, rfl, iteF ⟨_, rfl, rfl⟩⟩
    · rintro σ H' ⟨y, rfl, rfl⟩
      exact q
end
/-! ### what the law reckons -/
theorem Good.of {xs : List V} (hl : xs.length = 11) (h : ∀ k, k < 11 → ∃ v, xs[k]? = some v ∧ fitsB k v = true) : Good xs := ⟨hl, fun k v e => by
  have hk := (List.getElem?_eq_some_iff.mp e).1
  obtain ⟨u, e2, hf⟩ := h k (by omega)
  rw [e] at e2; cases e2; exact hf⟩
theorem Good.at {xs : List V} (g : Good xs) {k : Nat} (hk : k < 11) : ∃ v, xs[k]? = some v ∧ fitsB k v = true := by
  have e : xs[k]? = some (xs[k]'(by rw [g.1]; exact hk)) := List.getElem?_eq_getElem _
  exact ⟨_, e, g.2 k _ e⟩
/-- Book(room, height) -/
def plainOf (xs : List V) : List V := [xs.getD 0 .non, xs.getD 1 .non, .int 0, .int 100, .int 0, .int 0, .int 0, .int 0, .int 1, .int 1, .bl false]
def someOf (xs : List V) : List V := [xs.getD 0 .non, xs.getD 1 .non, .int 0, .int 100, xs.getD 4 .non, .int 0, .int 0, .int 0, .int 1, xs.getD 9 .non, xs.getD 10 .non]
theorem Good.getD {xs : List V} (g : Good xs) {k : Nat} (hk : k < 11) : fitsB k (xs.getD k .non) = true := by
  obtain ⟨v, e, hf⟩ := g.at hk
  rw [List.getD_eq_getElem?_getD, e]; exact hf
theorem Good.plain {xs : List V} (g : Good xs) : Good (plainOf xs) := ⟨rfl, fun k v h => by
  match k with
  | 0 => cases h; exact g.getD (by decide)
  | 1 => cases h; exact g.getD (by decide)
  | 2 => cases h; decide
  | 3 => cases h; decide
  | 4 => cases h; decide
  | 5 => cases h; decide
  | 6 => cases h; decide
  | 7 => cases h; decide
  | 8 => cases h; decide
  | 9 => cases h; decide
  | 10 => cases h; decide
  | k + 11 => simp [plainOf] at h⟩
theorem Good.someG {xs : List V} (g : Good xs) : Good (someOf xs) := ⟨rfl, fun k v h => by
  match k with
  | 0 => cases h; exact g.getD (by decide)
  | 1 => cases h; exact g.getD (by decide)
  | 2 => cases h; decide
  | 3 => cases h; decide
  | 4 => cases h; exact g.getD (by decide)
  | 5 => cases h; decide
  | 6 => cases h; decide
  | 7 => cases h; decide
  | 8 => cases h; decide
  | 9 => cases h; exact g.getD (by decide)
  | 10 => cases h; exact g.getD (by decide)
  | k + 11 => simp [someOf] at h⟩
theorem Good.set {xs ys : List V} (g : Good xs) (g2 : Good ys) {i : Nat} (hi : i < 11) : Good (xs.set i (ys.getD i .non)) := ⟨by rw [List.length_set]; exact g.1, fun k v h => by
  by_cases e : i = k
  · subst e
    rw [List.getElem?_set_self (by rw [g.1]; exact hi)] at h
    cases h; exact g2.getD hi
  · rw [List.getElem?_set_ne e] at h
    exact g.2 k v h⟩
theorem near_eq {xs ys : List V} (g : Good xs) {i : Nat} (hi : i < 11) : decide (xs = xs.set i (ys.getD i .non)) = decide (xs.getD i .non = ys.getD i .non) := by
  rw [Bool.eq_iff_iff, decide_eq_true_iff, decide_eq_true_iff]
  constructor
  · intro e
    have h1 : (xs.set i (ys.getD i .non))[i]? = some (ys.getD i .non) := List.getElem?_set_self (by rw [g.1]; exact hi)
    rw [← e] at h1
    rw [List.getD_eq_getElem?_getD, h1]; rfl
  · intro e
    refine List.ext_getElem? fun k => ?_
    by_cases ek : i = k
    · subst ek
      rw [List.getElem?_set_self (by rw [g.1]; exact hi), ← e, List.getD_eq_getElem?_getD, List.getElem?_eq_getElem (by rw [g.1]; exact hi)]; rfl
    · rw [List.getElem?_set_ne ek]
theorem scal_kin {u v : V} (h : Kin u v) : scal u v = true := by rcases h with ⟨i, j, rfl, rfl⟩ | ⟨a, b, rfl, rfl⟩ <;> rfl
theorem OddV.kp {H H' : Hp} {v : V} (h : OddV H v) (s : Kp H H') : OddV H' v := by
  rcases h with h | h | h | h | ⟨t, xs, e, h⟩
  · exact .inl h
  · exact .inr (.inl h)
  · exact .inr (.inr (.inl h))
  · exact .inr (.inr (.inr (.inl h)))
  · exact .inr (.inr (.inr (.inr ⟨t, xs, e, s.tup h⟩)))
/-- a list of eleven values of any kind -/
def OddL (H : Hp) (a : Addr) : Prop := ∃ vs, H a = some (.lst vs) ∧ vs.length = 11 ∧ ∀ x ∈ vs, OddV H x
theorem OddL.same {H H' : Hp} {a : Addr} (h : OddL H a) (s : Same H H') : OddL H' a := let ⟨vs, h1, h2, h3⟩ := h; ⟨vs, s _ _ h1, h2, fun x hx => (h3 x hx).same s⟩
theorem OddL.put {H : Hp} {a : Addr} {vs : List V} {v : V} {i : Nat} (h1 : H a = some (.lst vs)) (h2 : vs.length = 11) (h3 : ∀ x ∈ vs, OddV H x) (hv : OddV H v) : OddL (upd H a (.lst (vs.set i v))) a := by
  have kp : Kp H (upd H a (.lst (vs.set i v))) := Kp.but h1 (fun z => z) upd_but
  refine ⟨_, upd_same, by rw [List.length_set]; exact h2, fun x hx => ?_⟩
  rcases List.mem_or_eq_of_mem_set hx with hx | rfl
  · exact (h3 x hx).kp kp
  · exact hv.kp kp
theorem OddL.other {H : Hp} {a b : Addr} {us : List V} {o : HO} (h : OddL H b) (ha : H a = some (.lst us)) (hne : b ≠ a) : OddL (upd H a o) b := by
  obtain ⟨vs, h1, h2, h3⟩ := h
  have kp : Kp H (upd H a o) := Kp.but ha (fun z => z) upd_but
  exact ⟨vs, by rw [upd_ne hne]; exact h1, h2, fun x hx => (h3 x hx).kp kp⟩
/-- what stands behind the law's first rows -/
structure LawA (H : Hp) (V0 O0 R0 VV BB : Addr) (xs ys : List V) (is : List Int) : Prop where
  hV : H V0 = some (.lst xs)
  hO : H O0 = some (.lst ys)
  hR : H R0 = some (.lst (is.map V.int))
  hv : OddL H VV
  hb : OddL H BB
theorem LawA.same {H H' : Hp} {V0 O0 R0 VV BB : Addr} {xs ys : List V} {is : List Int} (h : LawA H V0 O0 R0 VV BB xs ys is) (s : Same H H') : LawA H' V0 O0 R0 VV BB xs ys is := ⟨s _ _ h.hV, s _ _ h.hO, s _ _ h.hR, h.hv.same s, h.hb.same s⟩
end K35

set_option maxRecDepth 100000
set_option maxHeartbeats 4000000
/-! == of an instance and a list, the own def says NotImplemented -/
namespace RL
open PySem PySem.Spec PyProof.Rows L2
/-! ### list.__eq__, list.__ne__ asked of an instance -/
section
variable {K : PySem.W.Frag} {C : Addr}
theorem not_lst {prog : Program} {w : World} {A : Around} {E : Value → Shared → Prop} {s : Shared} {x : Addr} {o : Obj} (ho : s.heap.get? x = some o) (hc : o.cls = .ref C) (X : K.In s.heap) (e : PySem.W.subIn K (.ref C) (.type "list") = some false) {Q : Bool → Shared → Prop} (hq : Q false s) :
    wpAny (model prog w) A (isInstance (.ref x) (.type "list")) Q E s := by
  simp only [isInstance]
  refine wpAny_bind (wpAny_typeOf_ref (o := o) ho ?_)
  rw [hc]
  exact (PySem.W.looks_subIn (M := model prog w) X e).here hq
theorem lst_eq_ref (l x : Addr) (o : Obj) (hc : o.cls = .ref C) (e : PySem.W.subIn K (.ref C) (.type "list") = some false) :
    Meets (Builtin.«list.__eq__» ⟨[.ref l, .ref x], []⟩) (fun _ R s => s.heap.get? x = some o ∧ K.In s.heap ∧ R (.ok (.ret .notImplemented)) s) :=
  .of_wp fun prog w A R s h => by
    obtain ⟨hl, X, h⟩ := h
    have hI : ∀ {Q : Bool → Shared → Prop}, Q false s → wpAny (model prog w) A.in1 (isInstance (.ref x) (.type "list")) Q (fun e s' => R (.error e) s') s := fun hq => not_lst hl hc X e hq
    wp_walk using hI
    exact ⟨_, rfl, h⟩
theorem lst_ne_ref (l x : Addr) (o : Obj) (hc : o.cls = .ref C) (e : PySem.W.subIn K (.ref C) (.type "list") = some false) :
    Meets (Builtin.«list.__ne__» ⟨[.ref l, .ref x], []⟩) (fun _ R s => s.heap.get? x = some o ∧ K.In s.heap ∧ R (.ok (.ret .notImplemented)) s) :=
  .of_wp fun prog w A R s h => by
    obtain ⟨hl, X, h⟩ := h
    have hI : ∀ {Q : Bool → Shared → Prop}, Q false s → wpAny (model prog w) A.in1 (isInstance (.ref x) (.type "list")) Q (fun e s' => R (.error e) s') s := fun hq => not_lst hl hc X e hq
    wp_walk using hI
    exact ⟨_, rfl, h⟩
end
section
variable {prog : Program} {w : World} {A : Around} {E : Value → Shared → Prop} {s : Shared} {K : PySem.W.Frag} {x C f l : Addr} {ox : Obj} {od : Option Obj}
theorem sub_lst : PySem.W.subIn K (.type "list") (.ref C) = some false := by
  have e : fastBuiltinMro "list" = some [.type "list", .type "object"] := by decide +kernel
  show (fastBuiltinMro "list").map (·.contains (.ref C)) = some false
  rw [e]
  first
    | rfl
    | simp
theorem same_no {Q : Bool → Shared → Prop} {o o2 : Obj} (h1 : s.heap.get? x = some o) (hc : o.cls = .ref C) (h2 : s.heap.get? l = some o2) (hc2 : o2.cls = .type "list") (hq : Q false s) : wpAny (model prog w) A (isSame (.ref x) (.ref l)) Q E s := by
  have hne : (x == l) = false := by
    refine beq_eq_false_iff_ne.mpr fun e => ?_
    subst e
    rw [h1] at h2; cases h2
    rw [hc] at hc2; cases hc2
  unfold isSame
  simp only [hne, Bool.false_eq_true, if_false]
  refine wpAny_bind (wpAny_load h1 (wpAny_bind (wpAny_load h2 ?_)))
  rw [hc, hc2]
  exact wpAny_pure hq
/-- what stands behind the own def: the instance, the list -/
def Behind (K : PySem.W.Frag) (x l C : Addr) (s' : Shared) : Prop := (∃ o, s'.heap.get? x = some o ∧ o.cls = .ref C) ∧ (∃ o, s'.heap.get? l = some o ∧ o.cls = .type "list") ∧ K.In s'.heap
theorem rc_niL {op : CmpOp} {b : Bool} (hop : (op = .Eq ∧ b = false) ∨ (op = .NotEq ∧ b = true)) {Q : Value → Shared → Prop} (hu : A.units < cLine) (X : K.In s.heap) (I : PySem.W.InstAt s.heap x ox C od) (hT : s.TypeIs (.ref l) "list") (hs : PySem.W.findIn K (.ref C) (cmpInfo op).2.1 = some (some (.ref f))) (hf : PySem.W.isFn K (.ref f) = true) (e : PySem.W.subIn K (.ref C) (.type "list") = some false)
    (hcall : wpAny (model prog w) A (call (.ref f) [.ref x, .ref l]) (fun v s' => v = .notImplemented ∧ Behind K x l C s' ∧ Q (.bool b) s') E s) :
    wpAny (model prog w) A (richCompare op (.ref x) (.ref l)) Q E s := by
  have one : wpAny (model prog w) A (tryCompare (.ref x) (cmpInfo op).2.1 (.ref l)) (fun r s' => r = none ∧ Behind K x l C s' ∧ Q (.bool b) s') E s := by
    unfold tryCompare
    refine wpAny_bind (PySem.W.ifBound_K X I hs hf (wpAny_mono hcall (fun v s' hv => ?_) fun _ _ e => e))
    obtain ⟨rfl, h1, h2⟩ := hv
    exact wpAny_pure ⟨rfl, h1, h2⟩
  have two : ∀ s', Behind K x l C s' → Q (.bool b) s' → wpAny (model prog w) A (tryCompare (.ref l) (cmpInfo op).2.2 (.ref x)) (fun r s2 => r = none ∧ Behind K x l C s2 ∧ Q (.bool b) s2) E s' := fun s' hb hq => by
    obtain ⟨⟨o, h1, h2⟩, ⟨o2, h3, h4⟩, h5⟩ := id hb
    rcases hop with ⟨rfl, _⟩ | ⟨rfl, _⟩
    · exact wpAny_tryCompare_declines ⟨o2, h3, h4⟩ F.slot_list_eq (call_meets F.slot_list_eq ⟨o2, h3, h4⟩ F.entry_list_eq (F.args_list_eq_2 _ _) (lst_eq_ref l x o h2 e) ⟨h1, h5, rfl, rfl, hb, hq⟩)
    · exact wpAny_tryCompare_declines ⟨o2, h3, h4⟩ F.slot_list_ne (call_meets F.slot_list_ne ⟨o2, h3, h4⟩ F.entry_list_ne (F.args_list_ne_2 _ _) (lst_ne_ref l x o h2 e) ⟨h1, h5, rfl, rfl, hb, hq⟩)
  unfold richCompare
  simp only [oneThing_ref]
  refine wpAny_holding (wpAny_bind (wpAny_cRoomFor hu ?_))
  refine wpAny_bind (I.type.here ?_)
  refine wpAny_bind (wpAny_typeOf hT ?_)
  split
  · refine wpAny_bind ((PySem.W.looks_subIn X sub_lst).here ?_)
    simp only [Bool.false_eq_true, if_false, Bool.not_false, if_true]
    refine wpAny_bind (m := tryCompare (.ref x) _ (.ref l)) (wpAny_mono one (fun r s1 y => ?_) fun _ _ e => e)
    obtain ⟨y1, y2, y3⟩ := y
    subst y1
    refine wpAny_bind (m := tryCompare (.ref l) _ (.ref x)) (wpAny_mono (two s1 y2 y3) (fun r s2 y => ?_) fun _ _ e => e)
    obtain ⟨y1, ⟨⟨o, h1, h2⟩, ⟨o2, h3, h4⟩, h5⟩, y4⟩ := y
    subst y1
    rcases hop with ⟨rfl, rfl⟩ | ⟨rfl, rfl⟩
    · exact wpAny_bind (wpAny_rule (wpAny_bind (same_no h1 h2 h3 h4 (wpAny_pure y4))))
    · exact wpAny_bind (wpAny_rule (wpAny_bind (same_no h1 h2 h3 h4 (wpAny_pure y4))))
  · rename_i q
    exact absurd (by simp) q
end
section
variable {X : Cx} {C f : Addr} {k : Nat} {R : List V → Hp → (Hp → Prop) → Prop} {CX : CXT} {fd : FuncData} {ps : List Str} {sp : Sp} {E : XK}
/-- o == list, o != list, the own def says NotImplemented -/
def rNiL (C : Addr) (b : Bool) (R : List V → Hp → (Hp → Prop) → Prop) : R2 := fun x y H Q => ∃ a dx fs l xs, x = .ref a ∧ y = .ref l ∧ H a = some (.ins C dx fs) ∧ H l = some (.lst xs) ∧ R [.ref a, .ref l] H (fun H' => (∃ dx fs, H' a = some (.ins C dx fs)) ∧ (∃ xs, H' l = some (.lst xs)) ∧ Q (.bl b) H')
theorem op_niL {op : CmpOp} {b : Bool} (hop : (op = .Eq ∧ b = false) ∨ (op = .NotEq ∧ b = true)) (hs : PySem.W.findIn X.K (.ref C) (cmpInfo op).2.1 = some (some (.ref f))) (hf : PySem.W.isFn X.K (.ref f) = true) (e : PySem.W.subIn X.K (.ref C) (.type "list") = some false) (G : R7.NiOk X.prog X.w X.K X.mg X.base k f R) (hr : Room k X.A) : OpR X (compareOp op) (rNiL C b R) := by
  intro pins s σ H x y v u Q I rx ry h
  obtain ⟨a, dx, fs, l, xs, rfl, rfl, ha, hl, hR⟩ := h
  cases (show v = Value.ref a from rx)
  cases (show u = Value.ref l from ry)
  obtain ⟨mA, J, _⟩ := ins_get I.hok ha
  obtain ⟨od, J, _⟩ := J.look
  obtain ⟨its, r, ⟨o, n, ho, hc, hd⟩, hz⟩ := I.list (SqL.of hl)
  have main : wpAny (model X.prog X.w) X.A (richCompare op (.ref a) (.ref l)) (EP X pins σ Q) X.xe s := by
    refine rc_niL hop hr.units0 I.kIn J ⟨o, ho, hc⟩ hs hf e (wpAny_call (codeAny_mono (G X.A X.stack s H [.ref a, .ref l] [.ref a, .ref l] _ hr I.env0 (.cons rfl (.cons rfl .nil)) hR) fun r s' hq => ?_))
    cases r with
    | error e => exact False.elim hq
    | ok fl =>
      cases fl with
      | next => exact False.elim hq
      | brk => exact False.elim hq
      | cont => exact False.elim hq
      | ret u =>
        obtain ⟨hu, hq⟩ := hq
        obtain ⟨v, H', I', _, ⟨dx', fs', ha'⟩, ⟨xs', hl'⟩, q⟩ := I.after hq
        obtain ⟨mA', J', _⟩ := ins_get I'.hok ha'
        obtain ⟨od', J', _⟩ := J'.look
        obtain ⟨its', r', ⟨o', n', ho', hc', hd'⟩, hz'⟩ := I'.list (SqL.of hl')
        exact ⟨hu, ⟨⟨_, J'.at_, rfl⟩, ⟨o', ho', hc'⟩, I'.kIn⟩, .bl b, H', I', rfl, q⟩
  rcases hop with ⟨rfl, _⟩ | ⟨rfl, _⟩
  · exact main
  · exact main
end
end RL

set_option maxRecDepth 100000
set_option maxHeartbeats 16000000
namespace K35
open PySem PySem.Spec PyProof.Rows L2
def lims : List Int := [5, 2001, 5, 2001, 5, 2001, 5, 2001, 5, 2001, 5, 2001, 5, 2001, 5, 2001, 5, 2001, 5, 2001, 2]
def plims : List Int := [11, 5, 4, 13, 9, 13, 9, 5, 11]
theorem rowN {ls rs : List Int} (h : RowOf ls rs) (i L : Nat) (e : ls[i]? = some (L : Int)) : ∃ m : Nat, m < L ∧ rs[i]? = some (m : Int) := by
  obtain ⟨r, h1, h2, h3⟩ := h.2 i _ e
  exact ⟨r.toNat, by omega, by rw [h1, Int.toNat_of_nonneg h2]⟩
theorem minN (m : Nat) : ∃ n : Nat, n ≤ 10 ∧ (if (10 : Int) < (m : Int) then (10 : Int) else (m : Int)) = (n : Int) := by
  by_cases h : (10 : Int) < (m : Int)
  · exact ⟨10, by omega, by rw [if_pos h]; rfl⟩
  · exact ⟨m, by omega, by rw [if_neg h]⟩
theorem Good.ix {xs : List V} (g : Good xs) {k : Nat} (hk : k < 11) : atI xs (k : Int) = some (xs.getD k .non) := atI_nat (by
  obtain ⟨v, e, _⟩ := g.at hk
  rw [List.getD_eq_getElem?_getD, e]; rfl)
theorem Good.kin2 {xs ys : List V} (g : Good xs) (g2 : Good ys) {k : Nat} (hk : k < 11) : Kin (xs.getD k .non) (ys.getD k .non) := by
  obtain ⟨u, e1, _⟩ := g.at hk
  obtain ⟨v, e2, _⟩ := g2.at hk
  rw [List.getD_eq_getElem?_getD, List.getD_eq_getElem?_getD, e1, e2]
  exact g.kin g2 k u v e1 e2
theorem strN {m : Nat} (h : m < 5) : atI (strangeAt.map V.str) (m : Int) = some (.str (strangeAt.getD m (Str.ofString ""))) := atI_nat (by
  rw [List.getElem?_map, List.getD_eq_getElem?_getD]
  have : strangeAt[m]? = some (strangeAt[m]'h) := List.getElem?_eq_getElem _
  rw [this]; rfl)
theorem leaf_names : ∀ (i : Nat) (v : V), (names.map V.str)[i]? = some v → Leaf v := fun i v h => by
  rw [List.getElem?_map] at h
  obtain ⟨z, _, rfl⟩ := Option.map_eq_some_iff.mp h
  exact .inl ⟨z, rfl⟩
theorem LawA.putV {H : Hp} {V0 O0 R0 VV BB : Addr} {xs ys vs : List V} {is : List Int} {i : Nat} {v : V} (L : LawA H V0 O0 R0 VV BB xs ys is) (h1 : H VV = some (.lst vs)) (h2 : vs.length = 11) (h3 : ∀ x ∈ vs, OddV H x) (hv : OddV H v) (d1 : VV ≠ V0) (d2 : VV ≠ O0) (d3 : VV ≠ R0) (d4 : BB ≠ VV) : LawA (upd H VV (.lst (vs.set i v))) V0 O0 R0 VV BB xs ys is :=
  ⟨by rw [upd_ne d1.symm]; exact L.hV, by rw [upd_ne d2.symm]; exact L.hO, by rw [upd_ne d3.symm]; exact L.hR, OddL.put h1 h2 h3 hv, L.hb.other h1 d4⟩
theorem LawA.putB {H : Hp} {V0 O0 R0 VV BB : Addr} {xs ys vs : List V} {is : List Int} {i : Nat} {v : V} (L : LawA H V0 O0 R0 VV BB xs ys is) (h1 : H BB = some (.lst vs)) (h2 : vs.length = 11) (h3 : ∀ x ∈ vs, OddV H x) (hv : OddV H v) (d1 : BB ≠ V0) (d2 : BB ≠ O0) (d3 : BB ≠ R0) (d4 : BB ≠ VV) : LawA (upd H BB (.lst (vs.set i v))) V0 O0 R0 VV BB xs ys is :=
  ⟨by rw [upd_ne d1.symm]; exact L.hV, by rw [upd_ne d2.symm]; exact L.hO, by rw [upd_ne d3.symm]; exact L.hR, L.hv.other h1 d4.symm, OddL.put h1 h2 h3 hv⟩
section
variable {P : Program} {w : World} {K : PySem.W.Frag} {mg : Str → Option Value} {base : Heap}
/-! ### law -/
def spLaw (K : PySem.W.Frag) : Sp := fun vs H Q _ => ∃ (a : Addr) (ns : List Int), vs = [.ref a] ∧ SqL K H a (ns.map V.int) ∧ ns.length ≤ 63 ∧ ∀ H', Q (.bl true) H'
abbrev nLaw : List Str := ["_law_script", "_law_values_here", "_law_other", "_law_pick", "_law_one", "_law_two", "_law_v", "_law_bad", "_law_book_here", "_law_plain", "_law_some", "_law_twin", "_law_near", "_law_pairs", "_law_pair", "_law_told_here"]
theorem scLaw : FnScope nLaw ["_law_script"] (defScope sLaw) := ⟨rfl, rfl, rfl, by decide +kernel, rfl, by decide +kernel, by decide +kernel⟩
theorem ok_law0 {C CB FT f_init f f_eq f_cell f_row f_values f_odd f_made f_due f_same f_book f_told f_changes_are f_strange f_one_changed f_names : Addr} {mc u : Value} {oFT : Obj} {fd_init fd fd_eq fd_cell fd_row fd_values fd_odd fd_made fd_due fd_same fd_book fd_told fd_changes_are fd_strange fd_one_changed fd_names : FuncData} (B : Blt mg) (T : Bok K mg C FT mc u) (M : Mk K C f_init) (FI : InitD K f_init fd_init) (kFT : K.lookup FT = some oFT) (cFT : oFT.cls = .type "tuple") (F : Fun K "law" "law" sLaw f fd)
    (G_init : FnOk P w K mg base (L2N.CX P w) 4 f_init fd_init pBk (spInit C CB)) (a_eq : PySem.W.findIn K (.ref C) "__eq__" = some (some (.ref f_eq)) ∧ PySem.W.isFn K (.ref f_eq) = true) (b_eq : Binds K fd_eq pOt []) (G_eq : FnOk P w K mg base CX0 1 f_eq fd_eq pOt (spEq C)) (N_eq : R7.NiOk P w K mg base 1 f_eq niR) (nol : PySem.W.subIn K (.ref C) (.type "list") = some false) (notu : PySem.W.subIn K (.ref C) (.type "tuple") = some false)
    (F_cell : Fun K "_law_cell" "_law_cell" sCell f_cell fd_cell) (b_cell : Binds K fd_cell ["_law_script", "_law_k"] []) (g_cell : mg "_law_cell" = some (.ref f_cell)) (G_cell : FnOk P w K mg base CX0 1 f_cell fd_cell ["_law_script", "_law_k"] (spCell K))
    (F_row : Fun K "_law_row" "_law_row" sRow f_row fd_row) (b_row : Binds K fd_row ["_law_cell_here", "_law_limits"] []) (g_row : mg "_law_row" = some (.ref f_row)) (G_row : FnOk P w K mg base CX0 1 f_row fd_row ["_law_cell_here", "_law_limits"] (spRow K))
    (F_values : Fun K "_law_values" "_law_values" sValues f_values fd_values) (b_values : Binds K fd_values ["_law_row_here"] []) (g_values : mg "_law_values" = some (.ref f_values)) (G_values : FnOk P w K mg base CX0 2 f_values fd_values ["_law_row_here"] spValues)
    (F_odd : Fun K "_law_odd" "_law_odd" sOdd f_odd fd_odd) (b_odd : Binds K fd_odd ["_law_k", "_law_pick"] []) (g_odd : mg "_law_odd" = some (.ref f_odd)) (G_odd : FnOk P w K mg base CX0 2 f_odd fd_odd ["_law_k", "_law_pick"] spOdd)
    (F_made : Fun K "_law_made" "_law_made" sMade f_made fd_made) (b_made : Binds K fd_made ["_law_v"] []) (g_made : mg "_law_made" = some (.ref f_made)) (G_made : FnOk P w K mg base CX0 7 f_made fd_made ["_law_v"] (spMade C))
    (F_due : Fun K "_law_due" "_law_due" sDue f_due fd_due) (b_due : Binds K fd_due ["_law_values_here"] []) (g_due : mg "_law_due" = some (.ref f_due)) (G_due : FnOk P w K mg base CX0 3 f_due fd_due ["_law_values_here"] spDue)
    (F_same : Fun K "_law_same" "_law_same" sSame f_same fd_same) (b_same : Binds K fd_same ["_law_one", "_law_two"] []) (g_same : mg "_law_same" = some (.ref f_same)) (G_same : FnOk P w K mg base CX0 2 f_same fd_same ["_law_one", "_law_two"] (spSame 1))
    (F_book : Fun K "_law_book" "_law_book" sBook f_book fd_book) (b_book : Binds K fd_book ["_law_v"] []) (g_book : mg "_law_book" = some (.ref f_book)) (G_book : FnOk P w K mg base (L2N.CX P w) 6 f_book fd_book ["_law_v"] (spLB C CB))
    (F_told : Fun K "_law_told" "_law_told" sTold f_told fd_told) (b_told : Binds K fd_told ["_law_book_here"] []) (g_told : mg "_law_told" = some (.ref f_told)) (G_told : FnOk P w K mg base CX0 1 f_told fd_told ["_law_book_here"] (spTold C))
    (F_changes_are : Fun K "_law_changes_are" "_law_changes_are" sChanges f_changes_are fd_changes_are) (b_changes_are : Binds K fd_changes_are pCa []) (g_changes_are : mg "_law_changes_are" = some (.ref f_changes_are)) (G_changes_are : FnOk P w K mg base CX0 8 f_changes_are fd_changes_are pCa (spCa C))
    (F_strange : Fun K "_law_strange" "_law_strange" sStrange f_strange fd_strange) (b_strange : Binds K fd_strange pSt []) (g_strange : mg "_law_strange" = some (.ref f_strange)) (G_strange : FnOk P w K mg base CX0 7 f_strange fd_strange pSt (spStr C))
    (F_one_changed : Fun K "_law_one_changed" "_law_one_changed" sOneC f_one_changed fd_one_changed) (b_one_changed : Binds K fd_one_changed pOn []) (g_one_changed : mg "_law_one_changed" = some (.ref f_one_changed)) (G_one_changed : FnOk P w K mg base (L2N.CX P w) 7 f_one_changed fd_one_changed pOn (spOne C CB))
    (F_names : Fun K "_law_names" "_law_names" sNames f_names fd_names) (b_names : Binds K fd_names [] []) (g_names : mg "_law_names" = some (.ref f_names)) (G_names : FnOk P w K mg base CX0 1 f_names fd_names [] spNames)
    (G_sameK : FnOk P w K mg base CX0 2 f_same fd_same ["_law_one", "_law_two"] (spSameK K)) : FnOk P w K mg base CX0 9 f fd ["_law_script"] (spLaw K) := by
  obtain ⟨mvs, KBsome⟩ := b_some FI
  obtain ⟨mvf, KBfive⟩ := b_five FI
  refine F.ok scLaw (fun vs H Q E h => ?_) (fun cdv A0 outer s H vs Q E hr h => ?_)
  · obtain ⟨a, ns, rfl, _⟩ := h; rfl
  · obtain ⟨a, ns, rfl, hS, hns, q⟩ := h
    have hr7 : Room 7 _ := hr.mono (by decide)
    have hr6 : Room 6 _ := hr.mono (by decide)
    have hrI : Room 5 _ := hr.mono (by decide)
    have hr3 : Room 3 _ := hr.mono (by decide)
    have hr2 : Room 2 _ := hr.mono (by decide)
    have hr1 : Room 1 _ := hr.mono (by decide)
    refine ⟨_, (pss_cons (ps_set (i := 1) scLaw.nd rfl (.inl rfl) (pe_call G_values hr2 (by rfl) g_values F_values.kp b_values .nil pass0 (pa_cons (pe_call G_row hr1 (by rfl) g_row F_row.kp b_row .nil pass0 (pa_cons (pe_call G_cell hr1 (by rfl) g_cell F_cell.kp b_cell .nil pass0 (pa_cons (pv 0) (pa_cons pe_int pa_nil))) (pa_cons (pe_op op_cat (pe_op op_rep (pe_lst (pa_cons pe_int (pa_cons pe_int pa_nil))) pe_int) (pe_lst (pa_cons pe_int pa_nil))) pa_nil))) pa_nil)))
      (pss_cons (ps_set (i := 2) scLaw.nd rfl (.inl rfl) (pe_call G_values hr2 (by rfl) g_values F_values.kp b_values .nil pass0 (pa_cons (pe_call G_row hr1 (by rfl) g_row F_row.kp b_row .nil pass0 (pa_cons (pe_call G_cell hr1 (by rfl) g_cell F_cell.kp b_cell .nil pass0 (pa_cons (pv 0) (pa_cons pe_int pa_nil))) (pa_cons (pe_op op_cat (pe_op op_rep (pe_lst (pa_cons pe_int (pa_cons pe_int pa_nil))) pe_int) (pe_lst (pa_cons pe_int pa_nil))) pa_nil))) pa_nil)))
      (pss_cons (ps_set (i := 3) scLaw.nd rfl (.inl rfl) (pe_call G_row hr1 (by rfl) g_row F_row.kp b_row .nil pass0 (pa_cons (pe_call G_cell hr1 (by rfl) g_cell F_cell.kp b_cell .nil pass0 (pa_cons (pv 0) (pa_cons pe_int pa_nil))) (pa_cons (pe_lst (pa_cons pe_int (pa_cons pe_int (pa_cons pe_int (pa_cons pe_int (pa_cons pe_int (pa_cons pe_int (pa_cons pe_int (pa_cons pe_int (pa_cons pe_int pa_nil)))))))))) pa_nil))))
      (pss_cons (ps_asg (pe_tup (pa_cons (pe_callB (call_min2 rfl) (by rfl) B.min (by decide +kernel) (pa_cons (pe_ix ix_list (pv 3) pe_int (fun _ _ => rfl)) (pa_cons pe_int pa_nil))) (pa_cons (pe_callB (call_min2 rfl) (by rfl) B.min (by decide +kernel) (pa_cons (pe_ix ix_list (pv 3) pe_int (fun _ _ => rfl)) (pa_cons pe_int pa_nil))) (pa_cons (pe_callTy call_list_of (by rfl) B.list (by decide +kernel) (pa_cons (pv 2) pa_nil)) (pa_cons (pe_callTy call_list_of (by rfl) B.list (by decide +kernel) (pa_cons (pv 1) pa_nil)) pa_nil))))) (pg_tup rfl (pgs_cons (pg_name (i := 4) scLaw.nd rfl (.inl rfl)) (pgs_cons (pg_name (i := 5) scLaw.nd rfl (.inl rfl)) (pgs_cons (pg_name (i := 6) scLaw.nd rfl (.inl rfl)) (pgs_cons (pg_name (i := 7) scLaw.nd rfl (.inl rfl)) pgs_nil))))))
      (Evl.pss_cut (ps_if (pt_cmpR op_lt (pe_ix ix_list (pv 3) pe_int (fun _ _ => rfl)) pe_int (nomark _))
      (pss_cons (ps_asg (pe_call G_odd hr2 (by rfl) g_odd F_odd.kp b_odd .nil pass0 (pa_cons (pv 4) (pa_cons (pe_ix ix_list (pv 3) pe_int (fun _ _ => rfl)) pa_nil))) (pg_sub (pv 6) (pv 4) set_list))
       (pss_one (ps_asg (pe_call G_odd hr2 (by rfl) g_odd F_odd.kp b_odd .nil pass0 (pa_cons (pv 4) (pa_cons (pe_ix ix_list (pv 3) pe_int (fun _ _ => rfl)) pa_nil))) (pg_sub (pv 7) (pv 4) set_list))))
      pss_nil)
      (Evl.pss_cut (ps_if (pt_cmpR op_eq (pe_ix ix_list (pv 3) pe_int (fun _ _ => rfl)) pe_int (nomark _))
      (pss_cons (ps_asg (pe_call G_odd hr2 (by rfl) g_odd F_odd.kp b_odd .nil pass0 (pa_cons (pv 5) (pa_cons (pe_ix ix_list (pv 3) pe_int (fun _ _ => rfl)) pa_nil))) (pg_sub (pv 6) (pv 5) set_list))
       (pss_one (ps_asg (pe_call G_odd hr2 (by rfl) g_odd F_odd.kp b_odd .nil pass0 (pa_cons (pv 5) (pa_cons (pe_ix ix_list (pv 3) pe_int (fun _ _ => rfl)) pa_nil))) (pg_sub (pv 7) (pv 5) set_list))))
      pss_nil)
      (Evl.pss_cut (ps_if (PW.pt (pw_or (pt_not (pt_val (pe_call G_same hr2 (by rfl) g_same F_same.kp b_same .nil pass0 (pa_cons (pe_call G_made hr7 (by rfl) g_made F_made.kp b_made .nil pass0 (pa_cons (pv 7) pa_nil)) (pa_cons (pe_call G_due hr3 (by rfl) g_due F_due.kp b_due .nil pass0 (pa_cons (pv 7) pa_nil)) pa_nil))))) (pw_or1 (pt_not (pt_val (pe_call G_same hr2 (by rfl) g_same F_same.kp b_same .nil pass0 (pa_cons (pe_call G_made hr7 (by rfl) g_made F_made.kp b_made .nil pass0 (pa_cons (pv 1) pa_nil)) (pa_cons (pv 1) pa_nil))))))))
      (pss_one (ps_ret pe_bl))
      pss_nil)
      (pss_cons (ps_par (i := 8) (j := 9) (by rfl) scLaw.nd rfl rfl (by decide) rfl rfl (pa_cons (pe_call G_book hr6 (by rfl) g_book F_book.kp b_book .nil passNN (pa_cons (pv 1) pa_nil)) (pa_cons (pe_makeK (n := 2) M G_init hrI (by rfl) T.mgC KBsome passNN (pa_cons (pe_ix ix_list (pv 1) pe_int (fun _ _ => rfl)) (pa_cons (pe_ix ix_list (pv 1) pe_int (fun _ _ => rfl)) pa_nil)) pk_nil) pa_nil)) (by rfl))
      (pss_cons (ps_if (pt_not (pt_val (pe_call G_same hr2 (by rfl) g_same F_same.kp b_same .nil pass0 (pa_cons (pe_call G_told hr1 (by rfl) g_told F_told.kp b_told .nil pass0 (pa_cons (pv 9) pa_nil)) (pa_cons (pe_lst (pa_cons (pe_ix ix_list (pv 1) pe_int (fun _ _ => rfl)) (pa_cons (pe_ix ix_list (pv 1) pe_int (fun _ _ => rfl)) (pa_cons pe_int (pa_cons pe_int (pa_cons pe_int (pa_cons pe_int (pa_cons pe_int (pa_cons pe_int (pa_cons pe_int (pa_cons pe_int (pa_cons pe_bl pa_nil)))))))))))) pa_nil)))))
      (pss_one (ps_ret pe_bl))
      pss_nil)
      (pss_cons (ps_set (i := 10) scLaw.nd rfl (.inl rfl) (pe_makeK0 M G_init hrI (by rfl) T.mgC KBfive passNN (pk_cons (pe_ix ix_list (pv 2) pe_int (fun _ _ => rfl)) (pk_cons (pe_ix ix_list (pv 2) pe_int (fun _ _ => rfl)) (pk_cons (pe_ix ix_list (pv 2) pe_int (fun _ _ => rfl)) (pk_cons (pe_ix ix_list (pv 2) pe_int (fun _ _ => rfl)) (pk_cons (pe_ix ix_list (pv 2) pe_int (fun _ _ => rfl)) pk_nil)))))))
      (pss_cons (ps_if (pt_not (pt_val (pe_call G_same hr2 (by rfl) g_same F_same.kp b_same .nil pass0 (pa_cons (pe_call G_told hr1 (by rfl) g_told F_told.kp b_told .nil pass0 (pa_cons (pv 10) pa_nil)) (pa_cons (pe_lst (pa_cons (pe_ix ix_list (pv 2) pe_int (fun _ _ => rfl)) (pa_cons (pe_ix ix_list (pv 2) pe_int (fun _ _ => rfl)) (pa_cons pe_int (pa_cons pe_int (pa_cons (pe_ix ix_list (pv 2) pe_int (fun _ _ => rfl)) (pa_cons pe_int (pa_cons pe_int (pa_cons pe_int (pa_cons pe_int (pa_cons (pe_ix ix_list (pv 2) pe_int (fun _ _ => rfl)) (pa_cons (pe_ix ix_list (pv 2) pe_int (fun _ _ => rfl)) pa_nil)))))))))))) pa_nil)))))
      (pss_one (ps_ret pe_bl))
      pss_nil)
      (pss_cons (ps_if (PW.pt (pw_or (pt_not (pt_val (pe_call G_changes_are hr (by rfl) g_changes_are F_changes_are.kp b_changes_are .nil pass0 (pa_cons (pv 8) (pa_cons (pv 1) (pa_cons (pv 3) (pa_cons (pv 6) pa_nil))))))) (pw_or1 (pt_not (pt_val (pe_call G_changes_are hr (by rfl) g_changes_are F_changes_are.kp b_changes_are .nil pass0 (pa_cons (pv 8) (pa_cons (pv 1) (pa_cons (pv 3) (pa_cons (pv 2) pa_nil))))))))))
      (pss_one (ps_ret pe_bl))
      pss_nil)
      (pss_cons (ps_if (pt_cmpR op_ne (pe_call G_strange hr7 (by rfl) g_strange F_strange.kp b_strange .nil pass0 (pa_cons (pv 8) (pa_cons (pe_ix ix_list (pv 3) pe_int (fun _ _ => rfl)) pa_nil))) (pe_ix ix_list (pe_lst (pa_cons pe_str (pa_cons pe_str (pa_cons pe_str (pa_cons pe_str (pa_cons pe_str pa_nil)))))) (pe_ix ix_list (pv 3) pe_int (fun _ _ => rfl)) (fun _ _ => rfl)) (nomark _))
      (pss_one (ps_ret pe_bl))
      pss_nil)
      (pss_cons (ps_par (i := 11) (j := 12) (by rfl) scLaw.nd rfl rfl (by decide) rfl rfl (pa_cons (pe_call G_book hr6 (by rfl) g_book F_book.kp b_book .nil passNN (pa_cons (pv 1) pa_nil)) (pa_cons (pe_call G_one_changed hr7 (by rfl) g_one_changed F_one_changed.kp b_one_changed .nil passNN (pa_cons (pv 8) (pa_cons (pe_ix ix_list (pv 3) pe_int (fun _ _ => rfl)) (pa_cons (pe_ix ix_list (pv 2) (pe_ix ix_list (pv 3) pe_int (fun _ _ => rfl)) (fun _ _ => rfl)) pa_nil)))) pa_nil)) (by rfl))
      (pss_cons (ps_set (i := 13) scLaw.nd rfl (.inl rfl) (pe_lst (pa_cons (pe_tup (pa_cons (pv 8) (pa_cons (pv 11) (pa_cons pe_bl pa_nil)))) (pa_cons (pe_tup (pa_cons (pv 11) (pa_cons (pv 12) (pa_cons (pe_cmpR op_eq (pe_ix ix_list (pv 1) (pe_ix ix_list (pv 3) pe_int (fun _ _ => rfl)) (fun _ _ => rfl)) (pe_ix ix_list (pv 2) (pe_ix ix_list (pv 3) pe_int (fun _ _ => rfl)) (fun _ _ => rfl)) (nomark _)) pa_nil)))) pa_nil))))
      (pss_cons (ps_for (PassesOwn.never) rfl (pi_list (pe_op op_cat (pv 13) (pe_lst (pa_cons (pe_tup (pa_cons (pv 8) (pa_cons (pv 9) (pa_cons (pe_cmpR (op_eqD hr.units) (pe_call G_told hr1 (by rfl) g_told F_told.kp b_told .nil pass0 (pa_cons (pv 9) pa_nil)) (pv 1) (nomark _)) pa_nil)))) pa_nil)))) (pg_name (i := 14) scLaw.nd rfl (.inl rfl))
      (pss_cons (ps_set (i := 15) scLaw.nd rfl (.inl rfl) (pe_cmpR (R7.op_eqOwn G_eq a_eq.1 a_eq.2 b_eq hr1 pass0) (pe_ix ix_tup (pv 14) pe_int (fun _ _ => rfl)) (pe_ix ix_tup (pv 14) pe_int (fun _ _ => rfl)) (nomark _)))
       (pss_one (ps_if (PW.pt (pw_or (pt_not (pt_val (pe_callB call_isi (by rfl) B.isi (by decide +kernel) (pa_cons (pv 15) (pa_cons (pe_bltn (v := .ty "bool") (by rfl) B.bool (by decide +kernel) rfl) pa_nil))))) (pw_or1 (pt_cmpR op_ne (pv 15) (pe_ix ix_tup (pv 14) pe_int (fun _ _ => rfl)) (nomark _)))))
       (pss_one (ps_ret pe_bl))
       pss_nil))))
      (pss_cons (ps_if (PW.pt (pw_or (pt_cmpR op_isnot_bl (pe_cmpR (RL.op_niL (.inl ⟨rfl, rfl⟩) a_eq.1 a_eq.2 nol N_eq hr1) (pv 8) (pe_callTy call_list_of (by rfl) B.list (by decide +kernel) (pa_cons (pv 1) pa_nil)) (nomark _)) pe_bl (nomark _)) (pw_or1 (pt_cmpR op_isnot_bl (pe_cmpR (RT.op_niT (.inl ⟨rfl, rfl⟩) a_eq.1 a_eq.2 notu N_eq hr1) (pv 8) (pe_callTy call_tuple_of (by rfl) B.tuple (by decide +kernel) (pa_cons (pv 1) pa_nil)) (nomark _)) pe_bl (nomark _)))))
      (pss_one (ps_ret pe_bl))
      pss_nil)
      (pss_one (ps_ret (pe_and (pe_call G_sameK hr2 (by rfl) g_same F_same.kp b_same .nil pass0 (pa_cons (ClX.pe_cval (pe_glob (v := .ref C) (by rfl) T.mgC rfl)) (pa_cons (pe_callTy call_tuple_of (by rfl) B.tuple (by decide +kernel) (pa_cons (pe_call0 G_names hr1 (by rfl) g_names F_names.kp b_names .nil pass0) pa_nil)) pa_nil))) (pe_one (pe_call G_same hr2 (by rfl) g_same F_same.kp b_same .nil pass0 (pa_cons (pe_call G_told hr1 (by rfl) g_told F_told.kp b_told .nil pass0 (pa_cons (pv 8) pa_nil)) (pa_cons (pv 1) pa_nil)))))))))))))))))))))))), ?_⟩
    -- the values of the first two cells
    refine ⟨.ref a, rfl, a, ns, 0, rfl, hS, hns, by decide, fun cv => ?_⟩
    refine ⟨by show 2 ≤ sizeLine; decide, fun l1v n1v => ?_⟩
    have t1v := same_new n1v (o := .lst [.int 5, .int 2001])
    have h1v : (upd H l1v (.lst [.int 5, .int 2001])) l1v = some (.lst [.int 5, .int 2001]) := upd_same
    generalize upd H l1v (.lst [.int 5, .int 2001]) = J1v at t1v h1v ⊢
    refine ⟨l1v, 10, _, rfl, rfl, h1v, by decide, by decide, by show 20 ≤ sizeLine; decide, fun l2v n2v => ?_⟩
    have t2v := same_new n2v (o := .lst (List.replicate (10 : Int).toNat [V.int 5, V.int 2001]).flatten)
    have h2v : (upd J1v l2v (.lst (List.replicate (10 : Int).toNat [V.int 5, V.int 2001]).flatten)) l2v = some (.lst (List.replicate (10 : Int).toNat [V.int 5, V.int 2001]).flatten) := upd_same
    generalize upd J1v l2v (.lst (List.replicate (10 : Int).toNat [V.int 5, V.int 2001]).flatten) = J2v at t2v h2v ⊢
    refine ⟨by show 1 ≤ sizeLine; decide, fun l3v n3v => ?_⟩
    have t3v := same_new n3v (o := .lst [.int 2])
    have h3v : (upd J2v l3v (.lst [.int 2])) l3v = some (.lst [.int 2]) := upd_same
    generalize upd J2v l3v (.lst [.int 2]) = J3v at t3v h3v ⊢
    refine ⟨l2v, l3v, _, _, rfl, rfl, t3v _ _ h2v, h3v, by show 21 ≤ sizeLine; decide, fun l4v n4v => ?_⟩
    have t4v := same_new n4v (o := .lst ((List.replicate (10 : Int).toNat [V.int 5, V.int 2001]).flatten ++ [.int 2]))
    have h4v : (upd J3v l4v (.lst ((List.replicate (10 : Int).toNat [V.int 5, V.int 2001]).flatten ++ [.int 2]))) l4v = some (.lst (lims.map V.int)) := by rw [upd_same]; rfl
    generalize upd J3v l4v (.lst ((List.replicate (10 : Int).toNat [V.int 5, V.int 2001]).flatten ++ [.int 2])) = J4v at t4v h4v ⊢
    refine ⟨cv, l4v, lims, rfl, SqL.of h4v, by decide, by decide, fun J5v rv rsv s5v nrv hr5v rowv => ?_⟩
    refine ⟨rv, rsv, rfl, hr5v, rowv.1, fun A1 V0 xs s6v n6v h6v gx => ?_⟩
    have Sv : Same H A1 := t1v.trans (t2v.trans (t3v.trans (t4v.trans (s5v.trans s6v))))
    refine ⟨.ref a, rfl, a, ns, 1, rfl, (Same.seq Sv hS), hns, by decide, fun co => ?_⟩
    refine ⟨by show 2 ≤ sizeLine; decide, fun l1o n1o => ?_⟩
    have t1o := same_new n1o (o := .lst [.int 5, .int 2001])
    have h1o : (upd A1 l1o (.lst [.int 5, .int 2001])) l1o = some (.lst [.int 5, .int 2001]) := upd_same
    generalize upd A1 l1o (.lst [.int 5, .int 2001]) = J1o at t1o h1o ⊢
    refine ⟨l1o, 10, _, rfl, rfl, h1o, by decide, by decide, by show 20 ≤ sizeLine; decide, fun l2o n2o => ?_⟩
    have t2o := same_new n2o (o := .lst (List.replicate (10 : Int).toNat [V.int 5, V.int 2001]).flatten)
    have h2o : (upd J1o l2o (.lst (List.replicate (10 : Int).toNat [V.int 5, V.int 2001]).flatten)) l2o = some (.lst (List.replicate (10 : Int).toNat [V.int 5, V.int 2001]).flatten) := upd_same
    generalize upd J1o l2o (.lst (List.replicate (10 : Int).toNat [V.int 5, V.int 2001]).flatten) = J2o at t2o h2o ⊢
    refine ⟨by show 1 ≤ sizeLine; decide, fun l3o n3o => ?_⟩
    have t3o := same_new n3o (o := .lst [.int 2])
    have h3o : (upd J2o l3o (.lst [.int 2])) l3o = some (.lst [.int 2]) := upd_same
    generalize upd J2o l3o (.lst [.int 2]) = J3o at t3o h3o ⊢
    refine ⟨l2o, l3o, _, _, rfl, rfl, t3o _ _ h2o, h3o, by show 21 ≤ sizeLine; decide, fun l4o n4o => ?_⟩
    have t4o := same_new n4o (o := .lst ((List.replicate (10 : Int).toNat [V.int 5, V.int 2001]).flatten ++ [.int 2]))
    have h4o : (upd J3o l4o (.lst ((List.replicate (10 : Int).toNat [V.int 5, V.int 2001]).flatten ++ [.int 2]))) l4o = some (.lst (lims.map V.int)) := by rw [upd_same]; rfl
    generalize upd J3o l4o (.lst ((List.replicate (10 : Int).toNat [V.int 5, V.int 2001]).flatten ++ [.int 2])) = J4o at t4o h4o ⊢
    refine ⟨co, l4o, lims, rfl, SqL.of h4o, by decide, by decide, fun J5o ro rso s5o nro hr5o rowo => ?_⟩
    refine ⟨ro, rso, rfl, hr5o, rowo.1, fun A2 O0 ys s6o n6o h6o gy => ?_⟩
    have So : Same A1 A2 := t1o.trans (t2o.trans (t3o.trans (t4o.trans (s5o.trans s6o))))
    refine ⟨.ref a, rfl, a, ns, 2, rfl, Same.seq (Sv.trans So) hS, hns, by decide, fun cp => ?_⟩
    refine ⟨by show 9 ≤ sizeLine; decide, fun lp np => ?_⟩
    have tp := same_new np (o := .lst [.int 11, .int 5, .int 4, .int 13, .int 9, .int 13, .int 9, .int 5, .int 11])
    have hp9 : (upd A2 lp (.lst [.int 11, .int 5, .int 4, .int 13, .int 9, .int 13, .int 9, .int 5, .int 11])) lp = some (.lst (plims.map V.int)) := by rw [upd_same]; rfl
    generalize upd A2 lp (.lst [.int 11, .int 5, .int 4, .int 13, .int 9, .int 13, .int 9, .int 5, .int 11]) = A3 at tp hp9 ⊢
    refine ⟨cp, lp, plims, rfl, SqL.of hp9, by decide, by decide, fun A4 R0 is s4 nR hR row => ?_⟩
    have hV4 := s4 _ _ (tp _ _ (So _ _ h6v))
    have hO4 := s4 _ _ (tp _ _ h6o)
    obtain ⟨m0, b0, e0⟩ := rowN row 0 11 rfl
    have p0 : atI (is.map V.int) 0 = some (.int (m0 : Int)) := by show atI _ ((0 : Nat) : Int) = _; exact atI_nat (by rw [List.getElem?_map, e0]; rfl)
    obtain ⟨m1, b1, e1⟩ := rowN row 1 5 rfl
    have p1 : atI (is.map V.int) 1 = some (.int (m1 : Int)) := by show atI _ ((1 : Nat) : Int) = _; exact atI_nat (by rw [List.getElem?_map, e1]; rfl)
    obtain ⟨m2, b2, e2⟩ := rowN row 2 4 rfl
    have p2 : atI (is.map V.int) 2 = some (.int (m2 : Int)) := by show atI _ ((2 : Nat) : Int) = _; exact atI_nat (by rw [List.getElem?_map, e2]; rfl)
    obtain ⟨m3, b3, e3⟩ := rowN row 3 13 rfl
    have p3 : atI (is.map V.int) 3 = some (.int (m3 : Int)) := by show atI _ ((3 : Nat) : Int) = _; exact atI_nat (by rw [List.getElem?_map, e3]; rfl)
    obtain ⟨m4, b4, e4⟩ := rowN row 4 9 rfl
    have p4 : atI (is.map V.int) 4 = some (.int (m4 : Int)) := by show atI _ ((4 : Nat) : Int) = _; exact atI_nat (by rw [List.getElem?_map, e4]; rfl)
    obtain ⟨m5, b5, e5⟩ := rowN row 5 13 rfl
    have p5 : atI (is.map V.int) 5 = some (.int (m5 : Int)) := by show atI _ ((5 : Nat) : Int) = _; exact atI_nat (by rw [List.getElem?_map, e5]; rfl)
    obtain ⟨m6, b6, e6⟩ := rowN row 6 9 rfl
    have p6 : atI (is.map V.int) 6 = some (.int (m6 : Int)) := by show atI _ ((6 : Nat) : Int) = _; exact atI_nat (by rw [List.getElem?_map, e6]; rfl)
    obtain ⟨m7, b7, e7⟩ := rowN row 7 5 rfl
    have p7 : atI (is.map V.int) 7 = some (.int (m7 : Int)) := by show atI _ ((7 : Nat) : Int) = _; exact atI_nat (by rw [List.getElem?_map, e7]; rfl)
    obtain ⟨m8, b8, e8⟩ := rowN row 8 11 rfl
    have p8 : atI (is.map V.int) 8 = some (.int (m8 : Int)) := by show atI _ ((8 : Nat) : Int) = _; exact atI_nat (by rw [List.getElem?_map, e8]; rfl)
    obtain ⟨n1, hn1, en1⟩ := minN m3
    obtain ⟨n2, hn2, en2⟩ := minN m5
    refine ⟨.ref R0, rfl, R0, _, 3, .int (m3 : Int), rfl, rfl, SqL.of hR, p3, _, _, rfl, .ref R0, rfl, R0, _, 5, .int (m5 : Int), rfl, rfl, SqL.of hR, p5, _, _, rfl, .ref O0, rfl, O0, _, rfl, .inl (SqL.of hO4), fun VV nVV => ?_⟩
    rw [en1, en2]
    have u1 := same_new nVV (o := .lst ys)
    have w1 : (upd A4 VV (.lst ys)) VV = some (.lst ys) := upd_same
    have dvv : ∀ {x o}, A4 x = some o → VV ≠ x := fun e => (ne_of_none e nVV).symm
    generalize upd A4 VV (.lst ys) = A5 at u1 w1 ⊢
    refine ⟨.ref V0, rfl, V0, _, rfl, .inl (SqL.of (u1 _ _ hV4)), fun BB nBB => ?_⟩
    have u2 := same_new nBB (o := .lst xs)
    have w2 : (upd A5 BB (.lst xs)) BB = some (.lst xs) := upd_same
    have dbb : ∀ {x o}, A5 x = some o → BB ≠ x := fun e => (ne_of_none e nBB).symm
    generalize upd A5 BB (.lst xs) = A6 at u2 w2 ⊢
    have v1 : VV ≠ V0 := dvv hV4
    have v2 : VV ≠ O0 := dvv hO4
    have v3 : VV ≠ R0 := dvv hR
    have v4 : BB ≠ V0 := dbb (u1 _ _ hV4)
    have v5 : BB ≠ O0 := dbb (u1 _ _ hO4)
    have v6 : BB ≠ R0 := dbb (u1 _ _ hR)
    have v7 : BB ≠ VV := dbb w1
    refine ⟨by show 4 ≤ sizeLine; decide, fun T0 nT0 => ⟨T0, _, rfl, SqT.of upd_same, rfl, _, _, rfl, _, _, rfl, _, _, rfl, _, _, rfl, rfl, ?_⟩⟩
    have u3 := same_new nT0 (o := .tup [.int (n1 : Int), .int (n2 : Int), .ref VV, .ref BB])
    generalize upd A6 T0 (.tup [.int (n1 : Int), .int (n2 : Int), .ref VV, .ref BB]) = A7 at u3 ⊢
    have u4 := u2.trans u3
    have L7 : LawA A7 V0 O0 R0 VV BB xs ys is := ⟨u4 _ _ (u1 _ _ hV4), u4 _ _ (u1 _ _ hO4), u4 _ _ (u1 _ _ hR), ⟨ys, u4 _ _ w1, gy.1, gy.odd⟩, ⟨xs, u3 _ _ w2, gx.1, gx.odd⟩⟩
    refine ⟨(fun σ' H' => σ' = [some (.ref a), some (.ref V0), some (.ref O0), some (.ref R0), some (.int (n1 : Int)), some (.int (n2 : Int)), some (.ref VV), some (.ref BB), none, none, none, none, none, none, none, none] ∧ LawA H' V0 O0 R0 VV BB xs ys is), ?_, ?_⟩
    · refine ⟨.ref R0, rfl, R0, _, 2, .int (m2 : Int), rfl, rfl, SqL.of L7.hR, p2, _, _, rfl, rfl, _, rfl, ite2 (fun _ => ?_) (fun _ => ⟨rfl, L7⟩)⟩
      refine ⟨.int (n1 : Int), rfl, .ref R0, rfl, R0, _, 4, .int (m4 : Int), rfl, rfl, SqL.of L7.hR, p4, n1, m4, rfl, hn1, b4, fun B1 v sB1 hv => ?_⟩
      have LB := L7.same sB1
      obtain ⟨vs, a1, a2, a3⟩ := LB.hv
      refine ⟨.ref VV, rfl, .int (n1 : Int), rfl, VV, vs, _, n1, rfl, rfl, a1, Evl.ixN_nat (by omega), ?_⟩
      have LC := LB.putV (i := n1) a1 a2 a3 hv v1 v2 v3 v7
      refine ⟨.int (n1 : Int), rfl, .ref R0, rfl, R0, _, 4, .int (m4 : Int), rfl, rfl, SqL.of LC.hR, p4, n1, m4, rfl, hn1, b4, fun B2 v' sB2 hv' => ?_⟩
      have LD := LC.same sB2
      obtain ⟨bs, c1, c2, c3⟩ := LD.hb
      exact ⟨.ref BB, rfl, .int (n1 : Int), rfl, BB, bs, _, n1, rfl, rfl, c1, Evl.ixN_nat (by omega), rfl, LD.putB (i := n1) c1 c2 c3 hv' v4 v5 v6 v7⟩
    rintro σ' A8 ⟨rfl, L8⟩
    refine ⟨(fun σ' H' => σ' = [some (.ref a), some (.ref V0), some (.ref O0), some (.ref R0), some (.int (n1 : Int)), some (.int (n2 : Int)), some (.ref VV), some (.ref BB), none, none, none, none, none, none, none, none] ∧ LawA H' V0 O0 R0 VV BB xs ys is), ?_, ?_⟩
    · refine ⟨.ref R0, rfl, R0, _, 2, .int (m2 : Int), rfl, rfl, SqL.of L8.hR, p2, rfl, _, rfl, ite2 (fun _ => ?_) (fun _ => ⟨rfl, L8⟩)⟩
      refine ⟨.int (n2 : Int), rfl, .ref R0, rfl, R0, _, 6, .int (m6 : Int), rfl, rfl, SqL.of L8.hR, p6, n2, m6, rfl, hn2, b6, fun B1 v sB1 hv => ?_⟩
      have LB := L8.same sB1
      obtain ⟨vs, a1, a2, a3⟩ := LB.hv
      refine ⟨.ref VV, rfl, .int (n2 : Int), rfl, VV, vs, _, n2, rfl, rfl, a1, Evl.ixN_nat (by omega), ?_⟩
      have LC := LB.putV (i := n2) a1 a2 a3 hv v1 v2 v3 v7
      refine ⟨.int (n2 : Int), rfl, .ref R0, rfl, R0, _, 6, .int (m6 : Int), rfl, rfl, SqL.of LC.hR, p6, n2, m6, rfl, hn2, b6, fun B2 v' sB2 hv' => ?_⟩
      have LD := LC.same sB2
      obtain ⟨bs, c1, c2, c3⟩ := LD.hb
      exact ⟨.ref BB, rfl, .int (n2 : Int), rfl, BB, bs, _, n2, rfl, rfl, c1, Evl.ixN_nat (by omega), rfl, LD.putB (i := n2) c1 c2 c3 hv' v4 v5 v6 v7⟩
    rintro σ' A9 ⟨rfl, L9⟩
    obtain ⟨bs, c1, c2, c3⟩ := L9.hb
    refine ⟨(fun σ' H' => σ' = [some (.ref a), some (.ref V0), some (.ref O0), some (.ref R0), some (.int (n1 : Int)), some (.int (n2 : Int)), some (.ref VV), some (.ref BB), none, none, none, none, none, none, none, none] ∧ Same A9 H'), ?_, ?_⟩
    · refine ⟨.ref BB, rfl, BB, bs, rfl, c1, c2, c3, fun k hk B1 t1 s1 ht1 => ?_, fun hb B1 t1 s1 hn1 ht1 => ?_⟩
      · refine ⟨.ref BB, rfl, BB, bs, rfl, s1 _ _ c1, c2, fun x hx => (c3 x hx).same s1, fun k2 hk2 B2 t2 s2 ht2 => ?_, fun hb => absurd (hb.symm.trans hk) (fun z => nomatch z)⟩
        rw [hk] at hk2; cases hk2
        exact ⟨.ref t1, .ref t2, rfl, same_flat (by show 3 ≤ 1000; decide) leaf_no (.inr ⟨s2 _ _ ht1, ht2⟩), true, rfl, iteF ⟨.ref V0, rfl, V0, xs, rfl, (s1.trans s2) _ _ L9.hV, gx.1, gx.odd, (fun k hk => absurd (gx.nobad.symm.trans hk) (fun z => nomatch z)), fun _ B3 t3 s3 hn3 ht3 => ⟨.ref V0, rfl, .ref t3, .ref V0, rfl, same_flat (by rw [gx.1]; decide) gx.leaf (.inl ⟨ht3, s3 _ _ ((s1.trans s2) _ _ L9.hV)⟩), true, rfl, iteF ⟨rfl, ((s1.trans s2)).trans s3⟩⟩⟩⟩
      · refine ⟨.ref BB, rfl, BB, bs, rfl, s1 _ _ c1, c2, fun x hx => (c3 x hx).same s1, fun k2 hk2 => absurd (hb.symm.trans hk2) (fun z => nomatch z), fun _ B2 t2 s2 hn2 ht2 => ?_⟩
        exact ⟨.ref t1, .ref t2, rfl, same_flat (by rw [c2]; decide) (badF_good c2 hb).leaf (.inl ⟨s2 _ _ ht1, ht2⟩), true, rfl, iteF ⟨.ref V0, rfl, V0, xs, rfl, (s1.trans s2) _ _ L9.hV, gx.1, gx.odd, (fun k hk => absurd (gx.nobad.symm.trans hk) (fun z => nomatch z)), fun _ B3 t3 s3 hn3 ht3 => ⟨.ref V0, rfl, .ref t3, .ref V0, rfl, same_flat (by rw [gx.1]; decide) gx.leaf (.inl ⟨ht3, s3 _ _ ((s1.trans s2) _ _ L9.hV)⟩), true, rfl, iteF ⟨rfl, ((s1.trans s2)).trans s3⟩⟩⟩⟩
    rintro σ' A10 ⟨rfl, s10⟩
    have L10 := L9.same s10
    -- the books
    refine ⟨.ref V0, rfl, V0, xs, rfl, L10.hV, gx.1, gx.odd, (fun k hk => absurd (gx.nobad.symm.trans hk) (fun z => nomatch z)), fun _ A11 bk s11 nbk hbk => ?_⟩
    have L11 := L10.same s11
    refine ⟨.ref V0, rfl, V0, _, 0, _, rfl, rfl, SqL.of L11.hV, (by show atI _ ((0 : Nat) : Int) = _; exact gx.ix (by decide)), .ref V0, rfl, V0, _, 1, _, rfl, rfl, SqL.of L11.hV, (by show atI _ ((1 : Nat) : Int) = _; exact gx.ix (by decide)), rfl, rfl, fun pl dp npl ndp hne1 => ?_⟩
    have sP : Same A11 (upd (upd A11 dp (.own pl)) pl (.ins C dp [])) := made_up npl ndp
    refine ⟨pl, dp, _, _, _, _, _, _, _, _, _, _, _, rfl, upd_same, gx.plain.odd, (fun k hk => absurd (gx.plain.nobad.symm.trans hk) (fun z => nomatch z)), fun _ A12 hk12 hB12 => ⟨rfl, _, _, rfl, ?_⟩⟩
    have s12 := made_same npl ndp hk12
    have L12 := L11.same s12
    have hbk12 := hbk.same s12
    have hpl12 : BookA C A12 pl (plainOf xs) := hB12
    refine ⟨.ref pl, rfl, pl, plainOf xs, rfl, hpl12, rfl, fun A13 l13 s13 n13 h13 => ?_⟩
    have L13 := L12.same s13
    refine ⟨.ref V0, rfl, V0, _, 0, _, rfl, rfl, SqL.of L13.hV, (by show atI _ ((0 : Nat) : Int) = _; exact gx.ix (by decide)), .ref V0, rfl, V0, _, 1, _, rfl, rfl, SqL.of L13.hV, (by show atI _ ((1 : Nat) : Int) = _; exact gx.ix (by decide)), by show 11 ≤ sizeLine; decide, fun l14 n14 => ?_⟩
    have s14 := same_new n14 (o := .lst (plainOf xs))
    refine ⟨.ref l13, .ref l14, rfl, same_flat (xs := plainOf xs) (by show 11 ≤ 1000; decide) gx.plain.leaf (.inl ⟨s14 _ _ h13, upd_same⟩), true, rfl, iteF ?_⟩
    have L14 := L13.same s14
    have hbk14 := (hbk12.same s13).same s14
    have hpl14 := (hpl12.same s13).same s14
    change Same A13 (upd A13 l14 (.lst (plainOf xs))) at s14
    generalize hA14 : upd A13 l14 (.lst (plainOf xs)) = A14 at s14 L14 hbk14 hpl14
    rw [show upd A13 l14 (.lst [xs.getD 0 .non, xs.getD 1 .non, .int 0, .int 100, .int 0, .int 0, .int 0, .int 0, .int 1, .int 1, .bl false]) = A14 from hA14]
    refine ⟨.ref O0, rfl, O0, _, 1, _, rfl, rfl, SqL.of L14.hO, (by show atI _ ((1 : Nat) : Int) = _; exact gy.ix (by decide)), .ref O0, rfl, O0, _, 0, _, rfl, rfl, SqL.of L14.hO, (by show atI _ ((0 : Nat) : Int) = _; exact gy.ix (by decide)), .ref O0, rfl, O0, _, 4, _, rfl, rfl, SqL.of L14.hO, (by show atI _ ((4 : Nat) : Int) = _; exact gy.ix (by decide)), .ref O0, rfl, O0, _, 10, _, rfl, rfl, SqL.of L14.hO, (by show atI _ ((10 : Nat) : Int) = _; exact gy.ix (by decide)), .ref O0, rfl, O0, _, 9, _, rfl, rfl, SqL.of L14.hO, (by show atI _ ((9 : Nat) : Int) = _; exact gy.ix (by decide)), rfl, rfl, fun sm ds nsm nds hne2 => ?_⟩
    have sS : Same A14 (upd (upd A14 ds (.own sm)) sm (.ins C ds [])) := made_up nsm nds
    refine ⟨sm, ds, _, _, _, _, _, _, _, _, _, _, _, rfl, upd_same, gy.someG.odd, (fun k hk => absurd (gy.someG.nobad.symm.trans hk) (fun z => nomatch z)), fun _ A15 hk15 hB15 => ⟨rfl, ?_⟩⟩
    have s15 := made_same nsm nds hk15
    have L15 := L14.same s15
    have hsm15 : BookA C A15 sm (someOf ys) := hB15
    refine ⟨.ref sm, rfl, sm, someOf ys, rfl, hsm15, rfl, fun A16 l16 s16 n16 h16 => ?_⟩
    have L16 := L15.same s16
    refine ⟨.ref O0, rfl, O0, _, 0, _, rfl, rfl, SqL.of L16.hO, (by show atI _ ((0 : Nat) : Int) = _; exact gy.ix (by decide)), .ref O0, rfl, O0, _, 1, _, rfl, rfl, SqL.of L16.hO, (by show atI _ ((1 : Nat) : Int) = _; exact gy.ix (by decide)), .ref O0, rfl, O0, _, 4, _, rfl, rfl, SqL.of L16.hO, (by show atI _ ((4 : Nat) : Int) = _; exact gy.ix (by decide)), .ref O0, rfl, O0, _, 9, _, rfl, rfl, SqL.of L16.hO, (by show atI _ ((9 : Nat) : Int) = _; exact gy.ix (by decide)), .ref O0, rfl, O0, _, 10, _, rfl, rfl, SqL.of L16.hO, (by show atI _ ((10 : Nat) : Int) = _; exact gy.ix (by decide)), by show 11 ≤ sizeLine; decide, fun l17 n17 => ?_⟩
    have s17 := same_new n17 (o := .lst (someOf ys))
    refine ⟨.ref l16, .ref l17, rfl, same_flat (xs := someOf ys) (by show 11 ≤ 1000; decide) gy.someG.leaf (.inl ⟨s17 _ _ h16, upd_same⟩), true, rfl, iteF ?_⟩
    have s1417 := s15.trans (s16.trans s17)
    have L17 := L14.same s1417
    have hbk17 := hbk14.same s1417
    have hpl17 := hpl14.same s1417
    generalize hA17 : upd A16 l17 (.lst (someOf ys)) = A17 at s17 s1417 L17 hbk17 hpl17
    rw [show upd A16 l17 (.lst [ys.getD 0 .non, ys.getD 1 .non, .int 0, .int 100, ys.getD 4 .non, .int 0, .int 0, .int 0, .int 1, ys.getD 9 .non, ys.getD 10 .non]) = A17 from hA17]
    -- the changes
    obtain ⟨vs, a1, a2, a3⟩ := L17.hv
    refine ⟨.ref bk, rfl, .ref V0, rfl, .ref R0, rfl, .ref VV, rfl, bk, V0, R0, VV, xs, vs, is, m0, m1, rfl, hbk17, gx, L17.hV, L17.hR, e0, e1, by omega, by omega, a1, a2, a3, fun A18 s18 => ⟨true, rfl, iteF ?_⟩⟩
    have L18 := L17.same s18
    refine ⟨.ref bk, rfl, .ref V0, rfl, .ref R0, rfl, .ref O0, rfl, bk, V0, R0, O0, xs, ys, is, m0, m1, rfl, hbk17.same s18, gx, L18.hV, L18.hR, e0, e1, by omega, by omega, L18.hO, gy.1, gy.odd, fun A19 s19 => ⟨true, rfl, iteF ?_⟩⟩
    have s1719 := s18.trans s19
    have L19 := L17.same s1719
    refine ⟨.ref bk, rfl, .ref R0, rfl, R0, _, 7, .int (m7 : Int), rfl, rfl, SqL.of L19.hR, p7, bk, xs, m7, rfl, by omega, hbk17.same s1719, gx.1, gx.odd, fun A20 s20 => ?_⟩
    have L20 := L19.same s20
    refine ⟨by show 5 ≤ sizeLine; decide, fun l21 n21 => ?_⟩
    have s21 := same_new n21 (o := .lst (strangeAt.map V.str))
    have h21 : (upd A20 l21 (.lst (strangeAt.map V.str))) l21 = some (.lst (strangeAt.map V.str)) := upd_same
    have s1721 := s1719.trans (s20.trans s21)
    have L21 := L17.same s1721
    refine ⟨.ref R0, rfl, R0, _, 7, .int (m7 : Int), rfl, rfl, SqL.of L21.hR, p7, l21, _, _, _, rfl, rfl, SqL.of h21, strN b7, rfl, _, rfl, iteNS rfl ?_⟩
    have hbk21 := hbk17.same s1721
    have hpl21 := hpl17.same s1721
    change Same A20 (upd A20 l21 (.lst (strangeAt.map V.str))) at s21
    generalize hA21 : upd A20 l21 (.lst (strangeAt.map V.str)) = A21 at s21 L21 hbk21 hpl21
    rw [show upd A20 l21 (.lst [.str (Str.ofString "zoom"), .str (Str.ofString "zoom"), .str (Str.ofString "spread"), .str (Str.ofString "rooms"), .str (Str.ofString "zoom")]) = A21 from hA21]
    refine ⟨.ref V0, rfl, V0, xs, rfl, L21.hV, gx.1, gx.odd, (fun k hk => absurd (gx.nobad.symm.trans hk) (fun z => nomatch z)), fun _ A22 tw s22 ntw htw => ?_⟩
    have L22 := L21.same s22
    have gn := gx.set gy b8
    have o8 : OddV A22 (ys.getD m8 .non) := fits_odd (gy.getD b8)
    refine ⟨.ref bk, rfl, .ref R0, rfl, R0, _, 8, .int (m8 : Int), rfl, rfl, SqL.of L22.hR, p8, .ref O0, rfl, .ref R0, rfl, R0, _, 8, .int (m8 : Int), rfl, rfl, SqL.of L22.hR, p8, O0, _, _, _, rfl, rfl, SqL.of L22.hO, gy.ix b8, bk, xs, m8, _, rfl, by omega, hbk21.same s22, gx.1, gx.odd, o8, (fun k hk => absurd (gn.nobad.symm.trans hk) (fun z => nomatch z)), fun _ A23 nr s23 nnr hnr => ⟨_, _, rfl, ?_⟩⟩
    have L23 := L22.same s23
    have hbk23 := (hbk21.same s22).same s23
    have hpl23 := (hpl21.same s22).same s23
    have htw23 := htw.same s23
    -- the pairs
    refine ⟨.ref bk, rfl, .ref tw, rfl, by show 3 ≤ sizeLine; decide, fun T1 nT1 => ?_⟩
    have q1 := same_new nT1 (o := .tup [.ref bk, .ref tw, .bl true])
    have hT1 : (upd A23 T1 (.tup [.ref bk, .ref tw, .bl true])) T1 = some (.tup [.ref bk, .ref tw, .bl true]) := upd_same
    generalize upd A23 T1 (.tup [.ref bk, .ref tw, .bl true]) = A24 at q1 hT1 ⊢
    have L24 := L23.same q1
    refine ⟨.ref tw, rfl, .ref nr, rfl, .ref V0, rfl, .ref R0, rfl, R0, _, 8, .int (m8 : Int), rfl, rfl, SqL.of L24.hR, p8, V0, _, _, _, rfl, rfl, SqL.of L24.hV, gx.ix b8, .ref O0, rfl, .ref R0, rfl, R0, _, 8, .int (m8 : Int), rfl, rfl, SqL.of L24.hR, p8, O0, _, _, _, rfl, rfl, SqL.of L24.hO, gy.ix b8, scal_kin (gx.kin2 gy b8), by show 3 ≤ sizeLine; decide, fun T2 nT2 => ?_⟩
    have q2 := same_new nT2 (o := .tup [.ref tw, .ref nr, .bl (decide (xs.getD m8 V.non = ys.getD m8 V.non))])
    have hT2 : (upd A24 T2 (.tup [.ref tw, .ref nr, .bl (decide (xs.getD m8 V.non = ys.getD m8 V.non))])) T2 = some (.tup [.ref tw, .ref nr, .bl (decide (xs.getD m8 V.non = ys.getD m8 V.non))]) := upd_same
    generalize upd A24 T2 (.tup [.ref tw, .ref nr, .bl (decide (xs.getD m8 V.non = ys.getD m8 V.non))]) = A25 at q2 hT2 ⊢
    refine ⟨by show 2 ≤ sizeLine; decide, fun LP nLP => ?_⟩
    have q3 := same_new nLP (o := .lst [.ref T1, .ref T2])
    have hLP : (upd A25 LP (.lst [.ref T1, .ref T2])) LP = some (.lst [.ref T1, .ref T2]) := upd_same
    generalize upd A25 LP (.lst [.ref T1, .ref T2]) = A26 at q3 hLP ⊢
    have q23 := q1.trans (q2.trans q3)
    have L26 := L23.same q23
    refine ⟨.ref LP, rfl, .ref bk, rfl, .ref pl, rfl, .ref pl, rfl, pl, plainOf xs, rfl, hpl23.same q23, rfl, fun A27 l27 s27 n27 h27 => ?_⟩
    have L27 := L26.same s27
    refine ⟨.ref V0, rfl, .list ((plainOf xs).map dV), .list (xs.map dV), .lst (SqL.of h27) (dp_flat gx.plain.flat), .lst (SqL.of L27.hV) (dp_flat gx.flat), sh_lst _, sh_lst _, by show 3 ≤ sizeLine; decide, fun T3 nT3 => ?_⟩
    have eP : PyData.eqv (.list ((plainOf xs).map dV)) (.list (xs.map dV)) = decide (xs = plainOf xs) := (gx.plain.eqv gx).trans (by rw [Bool.eq_iff_iff, decide_eq_true_iff, decide_eq_true_iff]; exact eq_comm)
    rw [eP]
    have q4 := same_new nT3 (o := .tup [.ref bk, .ref pl, .bl (decide (xs = plainOf xs))])
    have hT3 : (upd A27 T3 (.tup [.ref bk, .ref pl, .bl (decide (xs = plainOf xs))])) T3 = some (.tup [.ref bk, .ref pl, .bl (decide (xs = plainOf xs))]) := upd_same
    generalize upd A27 T3 (.tup [.ref bk, .ref pl, .bl (decide (xs = plainOf xs))]) = A28 at q4 hT3 ⊢
    refine ⟨by show 1 ≤ sizeLine; decide, fun L3 nL3 => ?_⟩
    have q5 := same_new nL3 (o := .lst [.ref T3])
    have hL3 : (upd A28 L3 (.lst [.ref T3])) L3 = some (.lst [.ref T3]) := upd_same
    generalize upd A28 L3 (.lst [.ref T3]) = A29 at q5 hL3 ⊢
    have s45 := s27.trans (q4.trans q5)
    refine ⟨LP, L3, _, _, rfl, rfl, s45 _ _ hLP, hL3, by show 3 ≤ sizeLine; decide, fun LL nLL => ?_⟩
    have q6 := same_new nLL (o := .lst [.ref T1, .ref T2, .ref T3])
    have hLL : (upd A29 LL (.lst ([.ref T1, .ref T2] ++ [.ref T3]))) LL = some (.lst [.ref T1, .ref T2, .ref T3]) := by rw [upd_same]; rfl
    change Same A29 (upd A29 LL (.lst ([.ref T1, .ref T2] ++ [.ref T3]))) at q6
    generalize upd A29 LL (.lst ([.ref T1, .ref T2] ++ [.ref T3])) = A30 at q6 hLL ⊢
    have q30 := q23.trans (s45.trans q6)
    have L30 := L23.same q30
    have hbk30 := hbk23.same q30
    have hpl30 := hpl23.same q30
    have htw30 := htw23.same q30
    have hnr30 := hnr.same q30
    have g1 := (q5.trans q6) _ _ hT3
    have g2 := (q3.trans (s45.trans q6)) _ _ hT2
    have g3 := (q2.trans (q3.trans (s45.trans q6))) _ _ hT1
    have prs : ∀ (i : Nat) (x : V), [V.ref T1, .ref T2, .ref T3][i]? = some x → ∃ (T c e : Addr) (us ws : List V), x = .ref T ∧ A30 T = some (.tup [.ref c, .ref e, .bl (decide (us = ws))]) ∧ BookA C A30 c us ∧ BookA C A30 e ws ∧ Good us ∧ Good ws := fun i x h => by
      match i with
      | 0 => cases h; exact ⟨T1, bk, tw, xs, xs, rfl, by rw [decide_eq_true rfl]; exact g3, hbk30, htw30, gx, gx⟩
      | 1 => cases h; exact ⟨T2, tw, nr, xs, _, rfl, by rw [near_eq gx b8]; exact g2, htw30, hnr30, gx, gn⟩
      | 2 => cases h; exact ⟨T3, bk, pl, xs, _, rfl, g1, hbk30, hpl30, gx, gx.plain⟩
      | i + 3 => simp at h
    refine ⟨LL, rfl, ⟨_, SqL.of hLL⟩, for_list (K := K) (a := LL) (xs := [.ref T1, .ref T2, .ref T3]) (fun i σ H' => ∃ y14 y15 : Option V, σ = [some (.ref a), some (.ref V0), some (.ref O0), some (.ref R0), some (.int (n1 : Int)), some (.int (n2 : Int)), some (.ref VV), some (.ref BB), some (.ref bk), some (.ref pl), some (.ref sm), some (.ref tw), some (.ref nr), some (.ref LP), y14, y15] ∧ A30 = H') ⟨none, none, rfl, rfl⟩ (fun i σ H' _ ⟨_, _, _, e⟩ => by rw [← e]; exact SqL.of hLL) ?_ ?_⟩
    · rintro i x σ H' hi ⟨y14, y15, rfl, rfl⟩
      obtain ⟨T4, c, e, us, ws, rfl, hT4, hc, he, gu, gw⟩ := prs i x hi
      obtain ⟨dx1, w1', hc1, _⟩ := id hc
      obtain ⟨dx2, w2', he1, _⟩ := id he
      refine ⟨.ref T4, rfl, T4, _, 0, .ref c, rfl, rfl, SqT.of hT4, rfl, .ref T4, rfl, T4, _, 1, .ref e, rfl, rfl, SqT.of hT4, rfl, c, dx1, _, e, dx2, _, rfl, rfl, hc1, he1, c, e, us, ws, rfl, hc, he, gu, gw, _, rfl, ?_⟩
      exact ⟨.bl _, rfl, .bl _, .ty "bool", .type "bool", .type "bool", true, rfl, .ty "bool", .base (.bl _), kit_ty (by decide +kernel), _, rfl, iteF ⟨.bl _, rfl, .ref T4, rfl, T4, _, 2, .bl (decide (us = ws)), rfl, rfl, SqT.of hT4, rfl, rfl, _, rfl, iteNS rfl ⟨_, _, rfl, rfl⟩⟩⟩
    rintro σ H' ⟨y14, y15, rfl, rfl⟩
    obtain ⟨dxb, wb, hb1, _⟩ := id hbk30
    refine ⟨.ref bk, rfl, .ref V0, rfl, V0, _, rfl, .inl (SqL.of L30.hV), fun l31 n31 => ?_⟩
    have s31 := same_new n31 (o := .lst xs)
    have h31 : (upd A30 l31 (.lst xs)) l31 = some (.lst xs) := upd_same
    generalize upd A30 l31 (.lst xs) = A31 at s31 h31 ⊢
    refine ⟨bk, dxb, _, l31, xs, rfl, rfl, s31 _ _ hb1, h31, bk, l31, xs, rfl, .inl h31, ⟨dxb, _, s31 _ _ hb1⟩, ⟨xs, h31⟩, ?_⟩
    refine ⟨false, false, rfl, rfl, _, rfl, iteNS rfl ?_⟩
    refine ⟨.ref bk, rfl, .ref V0, rfl, V0, _, rfl, .inl ⟨SqL.of (s31 _ _ L30.hV), fun t32 n32 => ?_⟩⟩
    have s32 := same_new n32 (o := .tup xs)
    have h32 : (upd A31 t32 (.tup xs)) t32 = some (.tup xs) := upd_same
    generalize upd A31 t32 (.tup xs) = A32 at s32 h32 ⊢
    have hb32 := s32 _ _ (s31 _ _ hb1)
    refine ⟨bk, dxb, _, t32, xs, rfl, rfl, hb32, h32, bk, t32, xs, rfl, .inr h32, ⟨dxb, _, hb32⟩, ⟨xs, h32⟩, ?_⟩
    refine ⟨false, false, rfl, rfl, _, rfl, iteNS rfl ?_⟩
    have s3032 := s31.trans s32
    refine ⟨C, mc, .ref FT, u, rfl, T.rd, T.fl, rfl, fun A33 l33 s33 n33 h33 => ?_⟩
    refine ⟨l33, _, rfl, .inl ⟨SqL.of h33, fun t34 n34 => ?_⟩⟩
    have s34 := same_new n34 (o := .tup (names.map V.str))
    have h34 : (upd A33 t34 (.tup (names.map V.str))) t34 = some (.tup (names.map V.str)) := upd_same
    generalize upd A33 t34 (.tup (names.map V.str)) = A34 at s34 h34 ⊢
    have s3034 := s3032.trans (s33.trans s34)
    have L34 := L30.same s3034
    refine ⟨FT, t34, names.map V.str, oFT, rfl, kFT, cFT, T.ft A34, h34, by decide, leaf_names, _, rfl, iteT ?_⟩
    exact ⟨.ref bk, rfl, bk, xs, rfl, hbk30.same s3034, gx.1, fun A35 l35 s35 n35 h35 => ⟨.ref V0, rfl, .ref l35, .ref V0, rfl, same_flat (by rw [gx.1]; decide) gx.leaf (.inl ⟨h35, s35 _ _ L34.hV⟩), q A35⟩⟩
end
end K35

set_option maxRecDepth 100000
set_option maxHeartbeats 8000000
namespace K35
open PySem PySem.Spec PyProof.Rows L2
section
variable {P : Program} {w : World} {K : PySem.W.Frag} {mg : Str → Option Value} {base : Heap}
theorem ok_law {C CB CT CL FT ND fB f_init f f_eq f_chg f_check f_cell f_row f_number f_same f_names f_bounds f_values f_odd f_fits f_due f_told f_made f_book f_one_changed f_some_changed f_some_due f_changes_are f_strange : Addr} {mc u : Value} {oFT : Obj} {fdB fd_init fd fd_eq fd_chg fd_check fd_cell fd_row fd_number fd_same fd_names fd_bounds fd_values fd_odd fd_fits fd_due fd_told fd_made fd_book fd_one_changed fd_some_changed fd_some_due fd_changes_are fd_strange : FuncData} (B : Blt mg) (T : Bok K mg C FT mc u) (I : BkI K C) (M : Mk K C f_init) (FI : InitD K f_init fd_init) (NT : BbE K mg CB fB fdB) (N : Num K w ND) (gN : mg "NUMBER_RANGES" = some (.ref ND)) (R : Ers K mg CB CT CL) (kFT : K.lookup FT = some oFT) (cFT : oFT.cls = .type "tuple")
    (nol : PySem.W.subIn K (.ref C) (.type "list") = some false) (notu : PySem.W.subIn K (.ref C) (.type "tuple") = some false) (F : Fun K "law" "law" sLaw f fd)
    (F_eq : Fun K "__eq__" "Book.__eq__" sEq f_eq fd_eq) (b_eq : Binds K fd_eq pOt []) (a_eq : PySem.W.findIn K (.ref C) "__eq__" = some (some (.ref f_eq)) ∧ PySem.W.isFn K (.ref f_eq) = true)
    (F_chg : Fun K "changed" "Book.changed" sChg f_chg fd_chg) (m_chg : Meth K C "changed" f_chg)
    (F_check : Fun K "_check_field" "_check_field" sCheck f_check fd_check) (b_check : Binds K fd_check pCk []) (g_check : mg "_check_field" = some (.ref f_check))
    (F_cell : Fun K "_law_cell" "_law_cell" sCell f_cell fd_cell) (b_cell : Binds K fd_cell ["_law_script", "_law_k"] []) (g_cell : mg "_law_cell" = some (.ref f_cell))
    (F_row : Fun K "_law_row" "_law_row" sRow f_row fd_row) (b_row : Binds K fd_row ["_law_cell_here", "_law_limits"] []) (g_row : mg "_law_row" = some (.ref f_row))
    (F_number : Fun K "_law_number" "_law_number" sNumber f_number fd_number) (b_number : Binds K fd_number ["_law_value"] []) (g_number : mg "_law_number" = some (.ref f_number))
    (F_same : Fun K "_law_same" "_law_same" sSame f_same fd_same) (b_same : Binds K fd_same ["_law_one", "_law_two"] []) (g_same : mg "_law_same" = some (.ref f_same))
    (F_names : Fun K "_law_names" "_law_names" sNames f_names fd_names) (b_names : Binds K fd_names [] []) (g_names : mg "_law_names" = some (.ref f_names))
    (F_bounds : Fun K "_law_bounds" "_law_bounds" sBounds f_bounds fd_bounds) (b_bounds : Binds K fd_bounds ["_law_k"] []) (g_bounds : mg "_law_bounds" = some (.ref f_bounds))
    (F_values : Fun K "_law_values" "_law_values" sValues f_values fd_values) (b_values : Binds K fd_values ["_law_row_here"] []) (g_values : mg "_law_values" = some (.ref f_values))
    (F_odd : Fun K "_law_odd" "_law_odd" sOdd f_odd fd_odd) (b_odd : Binds K fd_odd ["_law_k", "_law_pick"] []) (g_odd : mg "_law_odd" = some (.ref f_odd))
    (F_fits : Fun K "_law_fits" "_law_fits" sFits f_fits fd_fits) (b_fits : Binds K fd_fits pFi []) (g_fits : mg "_law_fits" = some (.ref f_fits))
    (F_due : Fun K "_law_due" "_law_due" sDue f_due fd_due) (b_due : Binds K fd_due ["_law_values_here"] []) (g_due : mg "_law_due" = some (.ref f_due))
    (F_told : Fun K "_law_told" "_law_told" sTold f_told fd_told) (b_told : Binds K fd_told ["_law_book_here"] []) (g_told : mg "_law_told" = some (.ref f_told))
    (F_made : Fun K "_law_made" "_law_made" sMade f_made fd_made) (b_made : Binds K fd_made ["_law_v"] []) (g_made : mg "_law_made" = some (.ref f_made))
    (F_book : Fun K "_law_book" "_law_book" sBook f_book fd_book) (b_book : Binds K fd_book ["_law_v"] []) (g_book : mg "_law_book" = some (.ref f_book))
    (F_one_changed : Fun K "_law_one_changed" "_law_one_changed" sOneC f_one_changed fd_one_changed) (b_one_changed : Binds K fd_one_changed pOn []) (g_one_changed : mg "_law_one_changed" = some (.ref f_one_changed))
    (F_some_changed : Fun K "_law_some_changed" "_law_some_changed" sSomeC f_some_changed fd_some_changed) (b_some_changed : Binds K fd_some_changed pSo []) (g_some_changed : mg "_law_some_changed" = some (.ref f_some_changed))
    (F_some_due : Fun K "_law_some_due" "_law_some_due" sSomeD f_some_due fd_some_due) (b_some_due : Binds K fd_some_due pSd []) (g_some_due : mg "_law_some_due" = some (.ref f_some_due))
    (F_changes_are : Fun K "_law_changes_are" "_law_changes_are" sChanges f_changes_are fd_changes_are) (b_changes_are : Binds K fd_changes_are pCa []) (g_changes_are : mg "_law_changes_are" = some (.ref f_changes_are))
    (F_strange : Fun K "_law_strange" "_law_strange" sStrange f_strange fd_strange) (b_strange : Binds K fd_strange pSt []) (g_strange : mg "_law_strange" = some (.ref f_strange)) : FnOk P w K mg base CX0 9 f fd ["_law_script"] (spLaw K) := by
  have G_check : FnOk P w K mg base (L2N.CX P w) 3 f_check fd_check pCk (spCheck CB) := ok_check B NT N gN F_check
  have G_init : FnOk P w K mg base (L2N.CX P w) 4 f_init fd_init pBk (spInit C CB) := ok_init B T FI F_check b_check g_check G_check
  have G_chg : RY.FnKw P w K mg base (L2N.CX P w) 6 f_chg fd_chg pCh "fields" (spChg C CB) := ok_chg B NT T M FI F_chg G_init
  have G_book : FnOk P w K mg base (L2N.CX P w) 6 f_book fd_book ["_law_v"] (spLB C CB) := ok_book T M FI F_book G_init
  have G_told : FnOk P w K mg base CX0 1 f_told fd_told ["_law_book_here"] (spTold C) := ok_told T F_told
  have G_due : FnOk P w K mg base CX0 3 f_due fd_due ["_law_values_here"] spDue := ok_due B F_due F_fits b_fits g_fits F_names b_names g_names F_number b_number g_number F_bounds b_bounds g_bounds
  have G_somed : FnOk P w K mg base CX0 4 f_some_due fd_some_due pSd spSD := ok_somed B F_some_due F_due b_due g_due G_due
  have G_made : FnOk P w K mg base CX0 7 f_made fd_made ["_law_v"] (spMade C) := ok_made B R F_made F_told b_told g_told G_told F_book b_book g_book G_book
  have G_one : FnOk P w K mg base (L2N.CX P w) 7 f_one_changed fd_one_changed pOn (spOne C CB) := ok_one T F_chg m_chg G_chg F_one_changed
  have G_some : FnOk P w K mg base (L2N.CX P w) 7 f_some_changed fd_some_changed pSo (spSome C CB) := ok_some T F_chg m_chg G_chg F_some_changed
  have G_same : FnOk P w K mg base CX0 2 f_same fd_same ["_law_one", "_law_two"] (spSame 1) := ok_same B F_same b_same g_same 1
  have G_changes : FnOk P w K mg base CX0 8 f_changes_are fd_changes_are pCa (spCa C) := ok_changes B R F_changes_are F_told b_told g_told G_told F_one_changed b_one_changed g_one_changed G_one F_some_changed b_some_changed g_some_changed G_some F_due b_due g_due G_due F_some_due b_some_due g_some_due G_somed F_same b_same g_same G_same
  have G_strange : FnOk P w K mg base CX0 7 f_strange fd_strange pSt (spStr C) := ok_strange B R T F_chg m_chg G_chg F_strange
  exact ok_law0 B T M FI kFT cFT F G_init a_eq b_eq (ok_eq B T I F_eq) (ni_eq B T I F_eq b_eq) nol notu F_cell b_cell g_cell (ok_cell B F_cell) F_row b_row g_row (ok_row B F_row) F_values b_values g_values (ok_values B F_values F_bounds b_bounds g_bounds) F_odd b_odd g_odd (ok_odd B F_odd F_bounds b_bounds g_bounds) F_made b_made g_made G_made F_due b_due g_due G_due F_same b_same g_same G_same F_book b_book g_book G_book F_told b_told g_told G_told F_changes_are b_changes_are g_changes_are G_changes F_strange b_strange g_strange G_strange F_one_changed b_one_changed g_one_changed G_one F_names b_names g_names (ok_names F_names) (ok_sameK B F_same b_same g_same)
end
end K35

set_option maxRecDepth 100000
set_option maxHeartbeats 4000000
namespace K35
open PySem PySem.Spec PyProof.Rows L2
theorem all_mk {l : PySem.W.OpenLaw} {w : World} {K : PySem.W.Frag} {h : Heap} {mg : Str → Option Value} {fa C CB CL CT ND f1 f2 f3 f4 f5 f6 f7 f8 f9 f10 f11 f12 f13 f14 f15 f16 f17 f18 f19 f20 f21 f22 f23 : Addr} (X : K.In h) (G : h.Ns mainGlobals mg) (hfa : mg "law" = some (.ref fa))
    {od1 an1 od2 an2 od3 an3 od4 an4 od5 an5 od6 an6 od7 an7 od8 an8 od9 an9 od10 an10 od11 an11 od12 an12 od13 an13 od14 an14 od15 an15 od16 an16 od17 an17 od18 an18 od19 an19 od20 an20 od21 an21 od22 an22 od23 an23 : Option Addr} {sl1 sl2 sl3 sl4 sl5 sl6 sl7 sl8 sl9 sl10 sl11 sl12 sl13 sl14 sl15 sl16 sl17 sl18 sl19 sl20 sl21 sl22 sl23 : Array (Option Value)}
    {oc1 kV1 dc1 pm1 cd1 ct1 oc2 kV2 dc2 pm2 cd2 ct2 oc3 kV3 dc3 pm3 cd3 ct3 oc4 kV4 dc4 pm4 cd4 ct4 oc5 kV5 dc5 pm5 cd5 ct5 oc6 kV6 dc6 pm6 cd6 ct6 oc7 kV7 dc7 pm7 cd7 ct7 oc8 kV8 dc8 pm8 cd8 ct8 oc9 kV9 dc9 pm9 cd9 ct9 oc10 kV10 dc10 pm10 cd10 ct10 oc11 kV11 dc11 pm11 cd11 ct11 oc12 kV12 dc12 pm12 cd12 ct12 oc13 kV13 dc13 pm13 cd13 ct13 oc14 kV14 dc14 pm14 cd14 ct14 oc15 kV15 dc15 pm15 cd15 ct15 oc16 kV16 dc16 pm16 cd16 ct16 oc17 kV17 dc17 pm17 cd17 ct17 oc18 kV18 dc18 pm18 cd18 ct18 oc19 kV19 dc19 pm19 cd19 ct19 oc20 kV20 dc20 pm20 cd20 ct20 oc21 kV21 dc21 pm21 cd21 ct21 oc22 kV22 dc22 pm22 cd22 ct22 oc23 kV23 dc23 pm23 cd23 ct23 : Value}
    {nm_CB q_CB : Str} {N_CB : Addr} {bs_CB bm_CB : List Value} {sn_CB : List Str} {sub_CB : List Value} {ab_CB : Bool} {col_CB : Option Bool} {dd_CB : Option Addr} {m0_CB m1_CB m2_CB m3_CB m5_CB : Option Value}
    {fc KD FT : Addr} {odc anc odF : Option Addr} {slc slF : Array (Option Value)} {occ dcc pmc cdc ctc : Value} {nF ndn : Nat} {ndes : Array DictEntry}
    {kt0 kt1 kt2 kt3 kt4 kt5 kt6 kt7 : Tok}
    {ft0 ft1 ft2 ft3 ft4 ft5 ft6 ft7 ft8 ft9 ft10 : Tok}
    {nt0 : Addr} {no0 : Option Addr} {nn0 : Nat} {ns0 : Array (Option Value)} {na0 nb0 : Tok}
    {nt1 : Addr} {no1 : Option Addr} {nn1 : Nat} {ns1 : Array (Option Value)} {na1 nb1 : Tok}
    {nt2 : Addr} {no2 : Option Addr} {nn2 : Nat} {ns2 : Array (Option Value)} {na2 nb2 : Tok}
    {nt3 : Addr} {no3 : Option Addr} {nn3 : Nat} {ns3 : Array (Option Value)} {na3 nb3 : Tok}
    {nt4 : Addr} {no4 : Option Addr} {nn4 : Nat} {ns4 : Array (Option Value)} {na4 nb4 : Tok}
    {nt5 : Addr} {no5 : Option Addr} {nn5 : Nat} {ns5 : Array (Option Value)} {na5 nb5 : Tok}
    {nt6 : Addr} {no6 : Option Addr} {nn6 : Nat} {ns6 : Array (Option Value)} {na6 nb6 : Tok}
    {nt7 : Addr} {no7 : Option Addr} {nn7 : Nat} {ns7 : Array (Option Value)} {na7 nb7 : Tok}
    {nt8 : Addr} {no8 : Option Addr} {nn8 : Nat} {ns8 : Array (Option Value)} {na8 nb8 : Tok}
    {nt9 : Addr} {no9 : Option Addr} {nn9 : Nat} {ns9 : Array (Option Value)} {na9 nb9 : Tok}
    (aC : PySem.W.nsIn K mainGlobals "Book" = some (some (.ref C)))
    (pgC : PySem.W.plainGet K C Str.empty = true)
    (hdC : PySem.W.hasDictIn K C = true)
    (poC : PySem.W.plainOver K C = true)
    (saC : PySem.W.findIn K (.ref C) "__setattr__" = some (some (.builtin "object.__setattr__")))
    (mkC : PySem.W.makesIn K C = true)
    (kcC : PySem.W.keepIn K (.ref C) = true)
    (nC_room : PySem.W.findIn K (.ref C) "room" = some none)
    (nC_height : PySem.W.findIn K (.ref C) "height" = some none)
    (nC_joint : PySem.W.findIn K (.ref C) "joint" = some none)
    (nC_over : PySem.W.findIn K (.ref C) "over" = some none)
    (nC_keep : PySem.W.findIn K (.ref C) "keep" = some none)
    (nC_orphan : PySem.W.findIn K (.ref C) "orphan" = some none)
    (nC_widow : PySem.W.findIn K (.ref C) "widow" = some none)
    (nC_wait : PySem.W.findIn K (.ref C) "wait" = some none)
    (nC_columns : PySem.W.findIn K (.ref C) "columns" = some none)
    (nC_gutter : PySem.W.findIn K (.ref C) "gutter" = some none)
    (nC_full : PySem.W.findIn K (.ref C) "full" = some none)
    (nC_worths : PySem.W.findIn K (.ref C) "_worths" = some none)
    (aCL : PySem.W.nsIn K mainGlobals "LaidError" = some (some (.ref CL)))
    (aCT : PySem.W.nsIn K mainGlobals "TooLarge" = some (some (.ref CT)))
    (aND : PySem.W.nsIn K mainGlobals "NUMBER_RANGES" = some (some (.ref ND)))
    (aCB : PySem.W.nsIn K mainGlobals "BadBook" = some (some (.ref CB)))
    (x_CB : K.lookup CB = some (excClassObj nm_CB q_CB CB N_CB bs_CB bm_CB true sn_CB sub_CB ab_CB col_CB dd_CB m0_CB m1_CB m2_CB m3_CB m5_CB "ValueError.__new__"))
    (xb_CB : PySem.HandSPX.refsVE bm_CB = true)
    (sa_CB : PySem.W.findIn K (.ref CB) "__setattr__" = some (some (.builtin "object.__setattr__")))
    (xe_CB : PySem.W.subIn K (.ref CB) (.type "BaseException") = some true)
    (xt_CB : PySem.W.typeIn K (.ref CB) = some (.type "type"))
    (xk_CB : PySem.W.keepIn K (.ref CB) = true)
    (f_CB_field : PySem.W.findIn K (.ref CB) "field" = some none)
    (hg_CB : PySem.W.findIn K (.ref CB) "__getattribute__" = some (some (.builtin "BaseException.__getattribute__")))
    (hk_CB : PySem.W.findIn K (.ref CB) "__getattr__" = some none)
    (hd_CB : PySem.W.hasDictIn K CB = true)
    (ha_CB : PySem.W.findIn K (.ref CB) "__class__" = some (some (.builtin "object.__class__")))
    (hn_CB : PySem.W.specialIn K (.builtin "object.__class__") "__get__" = some (some (.builtin "getset_descriptor.__get__")))
    (ht_CB : PySem.W.takesIn K (.builtin "object.__class__") = some true)
    (hm_CB : PySem.W.mroIn K CB (.type "object") = some true)
    (ls_CB : PySem.W.subIn K (.ref CB) (.ref CB) = some true)
    (kL_CB : PySem.W.kitOne K (.ref CB) (.ref CL) = some true)
    (kV_CB : PySem.W.kitOne K (.ref CB) (.type "ValueError") = some true)
    (kT_CB : PySem.W.kitOne K (.ref CB) (.ref CT) = some false)
    (ic_ha : PySem.W.findIn K (.ref C) "__class__" = some (some (.builtin "object.__class__")))
    (ic_hn : PySem.W.specialIn K (.builtin "object.__class__") "__get__" = some (some (.builtin "getset_descriptor.__get__")))
    (ic_ht : PySem.W.takesIn K (.builtin "object.__class__") = some true)
    (ic_hm : PySem.W.mroIn K C (.type "object") = some true)
    (ic_me : PySem.W.kitOne K (.ref C) (.ref C) = some true)
    (ic_kl : PySem.W.kitOne K (.type "list") (.ref C) = some false)
    (ic_kt : PySem.W.kitOne K (.type "tuple") (.ref C) = some false)
    (ic_no : PySem.W.subIn K (.ref C) (.type "list") = some false)
    (ic_nt : PySem.W.subIn K (.ref C) (.type "tuple") = some false)
    (w_a : PySem.W.findIn K (.ref C) "__init__" = some (some (.ref fc)))
    (w_i : PySem.W.isFn K (.ref fc) = true)
    (w_k : PySem.W.keepIn K (.ref fc) = true)
    (w_l : K.lookup fc = some ⟨occ, odc, .func (PySem.W.fnOf "__init__" "Book.__init__" (defArgs sInit) (defBody sInit) (defScope sInit) .none (.ref KD) dcc pmc anc cdc ctc), slc⟩)
    (w_c : PySem.W.codeIn K cdc "Book.__init__" = true)
    (fd_at : PySem.W.findCls K (.ref C) (.type "type") "FIELDS" = some (.val (.ref FT)))
    (fd_rd : PySem.W.readsIn K C (.type "type") = true)
    (fd_ga : PySem.W.specialIn K (.ref C) "__getattribute__" = some (some (.builtin "type.__getattribute__")))
    (fd_l : K.lookup FT = some ⟨.type "tuple", odF, .seq #[.str (Str.ofString "room") ft0, .str (Str.ofString "height") ft1, .str (Str.ofString "joint") ft2, .str (Str.ofString "over") ft3, .str (Str.ofString "keep") ft4, .str (Str.ofString "orphan") ft5, .str (Str.ofString "widow") ft6, .str (Str.ofString "wait") ft7, .str (Str.ofString "columns") ft8, .str (Str.ofString "gutter") ft9, .str (Str.ofString "full") ft10] nF, slF⟩)
    (kw_joint : PySem.W.nsIn K KD "joint" = some (some (.int 0 kt0)))
    (kw_over : PySem.W.nsIn K KD "over" = some (some (.int 100 kt1)))
    (kw_keep : PySem.W.nsIn K KD "keep" = some (some (.int 0 kt2)))
    (kw_orphan : PySem.W.nsIn K KD "orphan" = some (some (.int 0 kt3)))
    (kw_widow : PySem.W.nsIn K KD "widow" = some (some (.int 0 kt4)))
    (kw_wait : PySem.W.nsIn K KD "wait" = some (some (.int 0 kt5)))
    (kw_columns : PySem.W.nsIn K KD "columns" = some (some (.int 1 kt6)))
    (kw_gutter : PySem.W.nsIn K KD "gutter" = some (some (.int 1 kt7)))
    (kw_full : PySem.W.nsIn K KD "full" = some (some (.bool false)))
    (nd_at : K.lookup ND = some ⟨.type "dict", none, .dict ndes ndn, #[]⟩)
    (nd_lit : PySem.W.KeysLit w.params ndes.toList)
    (nd_low : (ND == sysModules) = false)
    (nk0 : PySem.W.nsIn K ND "room" = some (some (.ref nt0)))
    (nl0 : K.lookup nt0 = some ⟨.type "tuple", no0, .seq #[.int 1 na0, .int 2000 nb0] nn0, ns0⟩)
    (nk1 : PySem.W.nsIn K ND "height" = some (some (.ref nt1)))
    (nl1 : K.lookup nt1 = some ⟨.type "tuple", no1, .seq #[.int 1 na1, .int 2000 nb1] nn1, ns1⟩)
    (nk2 : PySem.W.nsIn K ND "joint" = some (some (.ref nt2)))
    (nl2 : K.lookup nt2 = some ⟨.type "tuple", no2, .seq #[.int 0 na2, .int 2000 nb2] nn2, ns2⟩)
    (nk3 : PySem.W.nsIn K ND "over" = some (some (.ref nt3)))
    (nl3 : K.lookup nt3 = some ⟨.type "tuple", no3, .seq #[.int 0 na3, .int 2000 nb3] nn3, ns3⟩)
    (nk4 : PySem.W.nsIn K ND "keep" = some (some (.ref nt4)))
    (nl4 : K.lookup nt4 = some ⟨.type "tuple", no4, .seq #[.int 0 na4, .int 2000 nb4] nn4, ns4⟩)
    (nk5 : PySem.W.nsIn K ND "orphan" = some (some (.ref nt5)))
    (nl5 : K.lookup nt5 = some ⟨.type "tuple", no5, .seq #[.int 0 na5, .int 2000 nb5] nn5, ns5⟩)
    (nk6 : PySem.W.nsIn K ND "widow" = some (some (.ref nt6)))
    (nl6 : K.lookup nt6 = some ⟨.type "tuple", no6, .seq #[.int 0 na6, .int 2000 nb6] nn6, ns6⟩)
    (nk7 : PySem.W.nsIn K ND "wait" = some (some (.ref nt7)))
    (nl7 : K.lookup nt7 = some ⟨.type "tuple", no7, .seq #[.int 0 na7, .int 2000 nb7] nn7, ns7⟩)
    (nk8 : PySem.W.nsIn K ND "columns" = some (some (.ref nt8)))
    (nl8 : K.lookup nt8 = some ⟨.type "tuple", no8, .seq #[.int 1 na8, .int 4 nb8] nn8, ns8⟩)
    (nk9 : PySem.W.nsIn K ND "gutter" = some (some (.ref nt9)))
    (nl9 : K.lookup nt9 = some ⟨.type "tuple", no9, .seq #[.int 0 na9, .int 40 nb9] nn9, ns9⟩)
    (nk_no : PySem.W.nsIn K ND "full" = some none)
    (a1 : PySem.W.nsIn K mainGlobals "_check_field" = some (some (.ref f1)))
    (l1 : K.lookup f1 = some ⟨oc1, od1, .func (PySem.W.fnOf "_check_field" "_check_field" (defArgs sCheck) (defBody sCheck) (defScope sCheck) .none kV1 dc1 pm1 an1 cd1 ct1), sl1⟩)
    (c1 : PySem.W.codeIn K cd1 "_check_field" = true)
    (k1 : PySem.W.keepIn K (.ref f1) = true)
    (a2 : PySem.W.nsIn K mainGlobals "_law_cell" = some (some (.ref f2)))
    (l2 : K.lookup f2 = some ⟨oc2, od2, .func (PySem.W.fnOf "_law_cell" "_law_cell" (defArgs sCell) (defBody sCell) (defScope sCell) .none kV2 dc2 pm2 an2 cd2 ct2), sl2⟩)
    (c2 : PySem.W.codeIn K cd2 "_law_cell" = true)
    (k2 : PySem.W.keepIn K (.ref f2) = true)
    (a3 : PySem.W.nsIn K mainGlobals "_law_row" = some (some (.ref f3)))
    (l3 : K.lookup f3 = some ⟨oc3, od3, .func (PySem.W.fnOf "_law_row" "_law_row" (defArgs sRow) (defBody sRow) (defScope sRow) .none kV3 dc3 pm3 an3 cd3 ct3), sl3⟩)
    (c3 : PySem.W.codeIn K cd3 "_law_row" = true)
    (k3 : PySem.W.keepIn K (.ref f3) = true)
    (a4 : PySem.W.nsIn K mainGlobals "_law_number" = some (some (.ref f4)))
    (l4 : K.lookup f4 = some ⟨oc4, od4, .func (PySem.W.fnOf "_law_number" "_law_number" (defArgs sNumber) (defBody sNumber) (defScope sNumber) .none kV4 dc4 pm4 an4 cd4 ct4), sl4⟩)
    (c4 : PySem.W.codeIn K cd4 "_law_number" = true)
    (k4 : PySem.W.keepIn K (.ref f4) = true)
    (a5 : PySem.W.nsIn K mainGlobals "_law_same" = some (some (.ref f5)))
    (l5 : K.lookup f5 = some ⟨oc5, od5, .func (PySem.W.fnOf "_law_same" "_law_same" (defArgs sSame) (defBody sSame) (defScope sSame) .none kV5 dc5 pm5 an5 cd5 ct5), sl5⟩)
    (c5 : PySem.W.codeIn K cd5 "_law_same" = true)
    (k5 : PySem.W.keepIn K (.ref f5) = true)
    (a6 : PySem.W.nsIn K mainGlobals "_law_names" = some (some (.ref f6)))
    (l6 : K.lookup f6 = some ⟨oc6, od6, .func (PySem.W.fnOf "_law_names" "_law_names" (defArgs sNames) (defBody sNames) (defScope sNames) .none kV6 dc6 pm6 an6 cd6 ct6), sl6⟩)
    (c6 : PySem.W.codeIn K cd6 "_law_names" = true)
    (k6 : PySem.W.keepIn K (.ref f6) = true)
    (a7 : PySem.W.nsIn K mainGlobals "_law_bounds" = some (some (.ref f7)))
    (l7 : K.lookup f7 = some ⟨oc7, od7, .func (PySem.W.fnOf "_law_bounds" "_law_bounds" (defArgs sBounds) (defBody sBounds) (defScope sBounds) .none kV7 dc7 pm7 an7 cd7 ct7), sl7⟩)
    (c7 : PySem.W.codeIn K cd7 "_law_bounds" = true)
    (k7 : PySem.W.keepIn K (.ref f7) = true)
    (a8 : PySem.W.nsIn K mainGlobals "_law_values" = some (some (.ref f8)))
    (l8 : K.lookup f8 = some ⟨oc8, od8, .func (PySem.W.fnOf "_law_values" "_law_values" (defArgs sValues) (defBody sValues) (defScope sValues) .none kV8 dc8 pm8 an8 cd8 ct8), sl8⟩)
    (c8 : PySem.W.codeIn K cd8 "_law_values" = true)
    (k8 : PySem.W.keepIn K (.ref f8) = true)
    (a9 : PySem.W.nsIn K mainGlobals "_law_odd" = some (some (.ref f9)))
    (l9 : K.lookup f9 = some ⟨oc9, od9, .func (PySem.W.fnOf "_law_odd" "_law_odd" (defArgs sOdd) (defBody sOdd) (defScope sOdd) .none kV9 dc9 pm9 an9 cd9 ct9), sl9⟩)
    (c9 : PySem.W.codeIn K cd9 "_law_odd" = true)
    (k9 : PySem.W.keepIn K (.ref f9) = true)
    (a10 : PySem.W.nsIn K mainGlobals "_law_fits" = some (some (.ref f10)))
    (l10 : K.lookup f10 = some ⟨oc10, od10, .func (PySem.W.fnOf "_law_fits" "_law_fits" (defArgs sFits) (defBody sFits) (defScope sFits) .none kV10 dc10 pm10 an10 cd10 ct10), sl10⟩)
    (c10 : PySem.W.codeIn K cd10 "_law_fits" = true)
    (k10 : PySem.W.keepIn K (.ref f10) = true)
    (a11 : PySem.W.nsIn K mainGlobals "_law_due" = some (some (.ref f11)))
    (l11 : K.lookup f11 = some ⟨oc11, od11, .func (PySem.W.fnOf "_law_due" "_law_due" (defArgs sDue) (defBody sDue) (defScope sDue) .none kV11 dc11 pm11 an11 cd11 ct11), sl11⟩)
    (c11 : PySem.W.codeIn K cd11 "_law_due" = true)
    (k11 : PySem.W.keepIn K (.ref f11) = true)
    (a12 : PySem.W.nsIn K mainGlobals "_law_told" = some (some (.ref f12)))
    (l12 : K.lookup f12 = some ⟨oc12, od12, .func (PySem.W.fnOf "_law_told" "_law_told" (defArgs sTold) (defBody sTold) (defScope sTold) .none kV12 dc12 pm12 an12 cd12 ct12), sl12⟩)
    (c12 : PySem.W.codeIn K cd12 "_law_told" = true)
    (k12 : PySem.W.keepIn K (.ref f12) = true)
    (a13 : PySem.W.nsIn K mainGlobals "_law_made" = some (some (.ref f13)))
    (l13 : K.lookup f13 = some ⟨oc13, od13, .func (PySem.W.fnOf "_law_made" "_law_made" (defArgs sMade) (defBody sMade) (defScope sMade) .none kV13 dc13 pm13 an13 cd13 ct13), sl13⟩)
    (c13 : PySem.W.codeIn K cd13 "_law_made" = true)
    (k13 : PySem.W.keepIn K (.ref f13) = true)
    (a14 : PySem.W.nsIn K mainGlobals "_law_book" = some (some (.ref f14)))
    (l14 : K.lookup f14 = some ⟨oc14, od14, .func (PySem.W.fnOf "_law_book" "_law_book" (defArgs sBook) (defBody sBook) (defScope sBook) .none kV14 dc14 pm14 an14 cd14 ct14), sl14⟩)
    (c14 : PySem.W.codeIn K cd14 "_law_book" = true)
    (k14 : PySem.W.keepIn K (.ref f14) = true)
    (a15 : PySem.W.nsIn K mainGlobals "_law_one_changed" = some (some (.ref f15)))
    (l15 : K.lookup f15 = some ⟨oc15, od15, .func (PySem.W.fnOf "_law_one_changed" "_law_one_changed" (defArgs sOneC) (defBody sOneC) (defScope sOneC) .none kV15 dc15 pm15 an15 cd15 ct15), sl15⟩)
    (c15 : PySem.W.codeIn K cd15 "_law_one_changed" = true)
    (k15 : PySem.W.keepIn K (.ref f15) = true)
    (a16 : PySem.W.nsIn K mainGlobals "_law_some_changed" = some (some (.ref f16)))
    (l16 : K.lookup f16 = some ⟨oc16, od16, .func (PySem.W.fnOf "_law_some_changed" "_law_some_changed" (defArgs sSomeC) (defBody sSomeC) (defScope sSomeC) .none kV16 dc16 pm16 an16 cd16 ct16), sl16⟩)
    (c16 : PySem.W.codeIn K cd16 "_law_some_changed" = true)
    (k16 : PySem.W.keepIn K (.ref f16) = true)
    (a17 : PySem.W.nsIn K mainGlobals "_law_some_due" = some (some (.ref f17)))
    (l17 : K.lookup f17 = some ⟨oc17, od17, .func (PySem.W.fnOf "_law_some_due" "_law_some_due" (defArgs sSomeD) (defBody sSomeD) (defScope sSomeD) .none kV17 dc17 pm17 an17 cd17 ct17), sl17⟩)
    (c17 : PySem.W.codeIn K cd17 "_law_some_due" = true)
    (k17 : PySem.W.keepIn K (.ref f17) = true)
    (a18 : PySem.W.nsIn K mainGlobals "_law_changes_are" = some (some (.ref f18)))
    (l18 : K.lookup f18 = some ⟨oc18, od18, .func (PySem.W.fnOf "_law_changes_are" "_law_changes_are" (defArgs sChanges) (defBody sChanges) (defScope sChanges) .none kV18 dc18 pm18 an18 cd18 ct18), sl18⟩)
    (c18 : PySem.W.codeIn K cd18 "_law_changes_are" = true)
    (k18 : PySem.W.keepIn K (.ref f18) = true)
    (a19 : PySem.W.nsIn K mainGlobals "_law_strange" = some (some (.ref f19)))
    (l19 : K.lookup f19 = some ⟨oc19, od19, .func (PySem.W.fnOf "_law_strange" "_law_strange" (defArgs sStrange) (defBody sStrange) (defScope sStrange) .none kV19 dc19 pm19 an19 cd19 ct19), sl19⟩)
    (c19 : PySem.W.codeIn K cd19 "_law_strange" = true)
    (k19 : PySem.W.keepIn K (.ref f19) = true)
    (a20 : PySem.W.nsIn K mainGlobals "law" = some (some (.ref f20)))
    (l20 : K.lookup f20 = some ⟨oc20, od20, .func (PySem.W.fnOf "law" "law" (defArgs sLaw) (defBody sLaw) (defScope sLaw) .none kV20 dc20 pm20 an20 cd20 ct20), sl20⟩)
    (c20 : PySem.W.codeIn K cd20 "law" = true)
    (k20 : PySem.W.keepIn K (.ref f20) = true)
    (a21 : PySem.W.findIn K (.ref C) "__eq__" = some (some (.ref f21)))
    (i21 : PySem.W.isFn K (.ref f21) = true)
    (l21 : K.lookup f21 = some ⟨oc21, od21, .func (PySem.W.fnOf "__eq__" "Book.__eq__" (defArgs sEq) (defBody sEq) (defScope sEq) .none kV21 dc21 pm21 an21 cd21 ct21), sl21⟩)
    (c21 : PySem.W.codeIn K cd21 "Book.__eq__" = true)
    (k21 : PySem.W.keepIn K (.ref f21) = true)
    (a22 : PySem.W.findIn K (.ref C) "changed" = some (some (.ref f22)))
    (i22 : PySem.W.isFn K (.ref f22) = true)
    (l22 : K.lookup f22 = some ⟨oc22, od22, .func (PySem.W.fnOf "changed" "Book.changed" (defArgs sChg) (defBody sChg) (defScope sChg) .none kV22 dc22 pm22 an22 cd22 ct22), sl22⟩)
    (c22 : PySem.W.codeIn K cd22 "Book.changed" = true)
    (k22 : PySem.W.keepIn K (.ref f22) = true)
    (a23 : PySem.W.findIn K (.ref CB) "__init__" = some (some (.ref f23)))
    (l23 : K.lookup f23 = some ⟨oc23, od23, .func (PySem.W.fnOf "__init__" "BadBook.__init__" (defArgs sBadI) (defBody sBadI) (defScope sBadI) .none kV23 dc23 pm23 an23 cd23 ct23), sl23⟩)
    (c23 : PySem.W.codeIn K cd23 "BadBook.__init__" = true)
    (k23 : PySem.W.keepIn K (.ref f23) = true)
    (t23 : PySem.W.typeIn K (.ref f23) = some (.type "function"))
    (z0 : PySem.W.nsIn K mainGlobals "len" = some none)
    (z1 : PySem.W.nsIn K mainGlobals "int" = some none)
    (z2 : PySem.W.nsIn K mainGlobals "str" = some none)
    (z3 : PySem.W.nsIn K mainGlobals "bool" = some none)
    (z4 : PySem.W.nsIn K mainGlobals "tuple" = some none)
    (z5 : PySem.W.nsIn K mainGlobals "list" = some none)
    (z6 : PySem.W.nsIn K mainGlobals "range" = some none)
    (z7 : PySem.W.nsIn K mainGlobals "isinstance" = some none)
    (z8 : PySem.W.nsIn K mainGlobals "min" = some none)
    (z9 : PySem.W.nsIn K mainGlobals "zip" = some none)
    (z10 : PySem.W.nsIn K mainGlobals "ValueError" = some none)
    (z11 : PySem.W.nsIn K mainGlobals "NotImplemented" = some none) :
    ∃ fd : FuncData, (∀ (s : Shared) (v : Value), BindsTo s fd ⟨[v], []⟩ [("_law_script", v)]) ∧ ∀ base : Heap, K.In base → base.Ns mainGlobals mg → FnOk l.prog w K mg base CX0 9 fa fd ["_law_script"] (spLaw K) := by
  have e := hfa.symm.trans (PySem.W.mg_of X G a20); cases e
  have B : Blt mg := ⟨PySem.W.mg_none_of X G z0, PySem.W.mg_none_of X G z1, PySem.W.mg_none_of X G z2, PySem.W.mg_none_of X G z3, PySem.W.mg_none_of X G z4, PySem.W.mg_none_of X G z5, PySem.W.mg_none_of X G z6, PySem.W.mg_none_of X G z7, PySem.W.mg_none_of X G z8, PySem.W.mg_none_of X G z9, PySem.W.mg_none_of X G z10, PySem.W.mg_none_of X G z11⟩
  have F1 := fun_mk (st := sCheck) l1 c1 k1
  have F2 := fun_mk (st := sCell) l2 c2 k2
  have F3 := fun_mk (st := sRow) l3 c3 k3
  have F4 := fun_mk (st := sNumber) l4 c4 k4
  have F5 := fun_mk (st := sSame) l5 c5 k5
  have F6 := fun_mk (st := sNames) l6 c6 k6
  have F7 := fun_mk (st := sBounds) l7 c7 k7
  have F8 := fun_mk (st := sValues) l8 c8 k8
  have F9 := fun_mk (st := sOdd) l9 c9 k9
  have F10 := fun_mk (st := sFits) l10 c10 k10
  have F11 := fun_mk (st := sDue) l11 c11 k11
  have F12 := fun_mk (st := sTold) l12 c12 k12
  have F13 := fun_mk (st := sMade) l13 c13 k13
  have F14 := fun_mk (st := sBook) l14 c14 k14
  have F15 := fun_mk (st := sOneC) l15 c15 k15
  have F16 := fun_mk (st := sSomeC) l16 c16 k16
  have F17 := fun_mk (st := sSomeD) l17 c17 k17
  have F18 := fun_mk (st := sChanges) l18 c18 k18
  have F19 := fun_mk (st := sStrange) l19 c19 k19
  have F20 := fun_mk (st := sLaw) l20 c20 k20
  have F21 := fun_mk (st := sEq) l21 c21 k21
  have F22 := fun_mk (st := sChg) l22 c22 k22
  have F23 := fun_mk (st := sBadI) l23 c23 k23
  have b1 := F1.binds (ps := ["name", "value"]) fun _ _ _ _ _ _ us hl => match us, hl with | [_, _], _ => rfl
  have b2 := F2.binds (ps := ["_law_script", "_law_k"]) fun _ _ _ _ _ _ us hl => match us, hl with | [_, _], _ => rfl
  have b3 := F3.binds (ps := ["_law_cell_here", "_law_limits"]) fun _ _ _ _ _ _ us hl => match us, hl with | [_, _], _ => rfl
  have b4 := F4.binds (ps := ["_law_value"]) fun _ _ _ _ _ _ us hl => match us, hl with | [_], _ => rfl
  have b5 := F5.binds (ps := ["_law_one", "_law_two"]) fun _ _ _ _ _ _ us hl => match us, hl with | [_, _], _ => rfl
  have b6 := F6.binds (ps := []) fun _ _ _ _ _ _ us hl => match us, hl with | [], _ => rfl
  have b7 := F7.binds (ps := ["_law_k"]) fun _ _ _ _ _ _ us hl => match us, hl with | [_], _ => rfl
  have b8 := F8.binds (ps := ["_law_row_here"]) fun _ _ _ _ _ _ us hl => match us, hl with | [_], _ => rfl
  have b9 := F9.binds (ps := ["_law_k", "_law_pick"]) fun _ _ _ _ _ _ us hl => match us, hl with | [_, _], _ => rfl
  have b10 := F10.binds (ps := ["_law_k", "_law_value"]) fun _ _ _ _ _ _ us hl => match us, hl with | [_, _], _ => rfl
  have b11 := F11.binds (ps := ["_law_values_here"]) fun _ _ _ _ _ _ us hl => match us, hl with | [_], _ => rfl
  have b12 := F12.binds (ps := ["_law_book_here"]) fun _ _ _ _ _ _ us hl => match us, hl with | [_], _ => rfl
  have b13 := F13.binds (ps := ["_law_v"]) fun _ _ _ _ _ _ us hl => match us, hl with | [_], _ => rfl
  have b14 := F14.binds (ps := ["_law_v"]) fun _ _ _ _ _ _ us hl => match us, hl with | [_], _ => rfl
  have b15 := F15.binds (ps := ["_law_book_here", "_law_k", "_law_value"]) fun _ _ _ _ _ _ us hl => match us, hl with | [_, _, _], _ => rfl
  have b16 := F16.binds (ps := ["_law_book_here", "_law_way", "_law_v"]) fun _ _ _ _ _ _ us hl => match us, hl with | [_, _, _], _ => rfl
  have b17 := F17.binds (ps := ["_law_values_here", "_law_way", "_law_v"]) fun _ _ _ _ _ _ us hl => match us, hl with | [_, _, _], _ => rfl
  have b18 := F18.binds (ps := ["_law_book_here", "_law_values_here", "_law_pick", "_law_v"]) fun _ _ _ _ _ _ us hl => match us, hl with | [_, _, _, _], _ => rfl
  have b19 := F19.binds (ps := ["_law_book_here", "_law_way"]) fun _ _ _ _ _ _ us hl => match us, hl with | [_, _], _ => rfl
  have b21 := F21.binds (ps := ["self", "other"]) fun _ _ _ _ _ _ us hl => match us, hl with | [_, _], _ => rfl
  have b23 := F23.binds (ps := ["self", "field"]) fun _ _ _ _ _ _ us hl => match us, hl with | [_, _], _ => rfl
  have T : Bok K mg C FT (.type "type") (.ref FT) := ⟨⟨pgC, hdC, poC, saC⟩, nC_room, nC_height, nC_joint, nC_over, nC_keep, nC_orphan, nC_widow, nC_wait, nC_columns, nC_gutter, nC_full, nC_worths, PySem.W.mg_of X G aC, ⟨fd_rd, fd_ga⟩, ⟨fd_at, rfl⟩, fun H => .inr ⟨_, _, _, fd_l, rfl, rfl, by show 11 ≤ sizeLine; decide, .cons ⟨_, rfl⟩ (.cons ⟨_, rfl⟩ (.cons ⟨_, rfl⟩ (.cons ⟨_, rfl⟩ (.cons ⟨_, rfl⟩ (.cons ⟨_, rfl⟩ (.cons ⟨_, rfl⟩ (.cons ⟨_, rfl⟩ (.cons ⟨_, rfl⟩ (.cons ⟨_, rfl⟩ (.cons ⟨_, rfl⟩ (.nil)))))))))))⟩⟩
  have I : BkI K C := ⟨ic_ha, ic_hn, ic_ht, ic_hm, ic_me, ic_kl, ic_kt⟩
  have M : Mk K C fc := ⟨mkC, w_a, w_i, kcC⟩
  have NT : BbE K mg CB f23 _ := ⟨PySem.W.mg_of X G aCB, ⟨⟨nm_CB, q_CB, N_CB, bs_CB, bm_CB, sn_CB, sub_CB, ab_CB, col_CB, dd_CB, m0_CB, m1_CB, m2_CB, m3_CB, m5_CB, x_CB, xb_CB⟩, sa_CB, xe_CB, xt_CB, xk_CB⟩, f_CB_field, a23, t23, F23, b23⟩
  have N : Num K w ND := ⟨⟨ndes, ndn, ⟨nd_at, nd_lit, nd_low⟩⟩, fun k hk => match k, hk with
    | 0, _ => ⟨nt0, _, _, nn0, nk0, nl0, rfl, rfl, by show 2 ≤ sizeLine; decide, .cons ⟨_, rfl⟩ (.cons ⟨_, rfl⟩ .nil)⟩
    | 1, _ => ⟨nt1, _, _, nn1, nk1, nl1, rfl, rfl, by show 2 ≤ sizeLine; decide, .cons ⟨_, rfl⟩ (.cons ⟨_, rfl⟩ .nil)⟩
    | 2, _ => ⟨nt2, _, _, nn2, nk2, nl2, rfl, rfl, by show 2 ≤ sizeLine; decide, .cons ⟨_, rfl⟩ (.cons ⟨_, rfl⟩ .nil)⟩
    | 3, _ => ⟨nt3, _, _, nn3, nk3, nl3, rfl, rfl, by show 2 ≤ sizeLine; decide, .cons ⟨_, rfl⟩ (.cons ⟨_, rfl⟩ .nil)⟩
    | 4, _ => ⟨nt4, _, _, nn4, nk4, nl4, rfl, rfl, by show 2 ≤ sizeLine; decide, .cons ⟨_, rfl⟩ (.cons ⟨_, rfl⟩ .nil)⟩
    | 5, _ => ⟨nt5, _, _, nn5, nk5, nl5, rfl, rfl, by show 2 ≤ sizeLine; decide, .cons ⟨_, rfl⟩ (.cons ⟨_, rfl⟩ .nil)⟩
    | 6, _ => ⟨nt6, _, _, nn6, nk6, nl6, rfl, rfl, by show 2 ≤ sizeLine; decide, .cons ⟨_, rfl⟩ (.cons ⟨_, rfl⟩ .nil)⟩
    | 7, _ => ⟨nt7, _, _, nn7, nk7, nl7, rfl, rfl, by show 2 ≤ sizeLine; decide, .cons ⟨_, rfl⟩ (.cons ⟨_, rfl⟩ .nil)⟩
    | 8, _ => ⟨nt8, _, _, nn8, nk8, nl8, rfl, rfl, by show 2 ≤ sizeLine; decide, .cons ⟨_, rfl⟩ (.cons ⟨_, rfl⟩ .nil)⟩
    | 9, _ => ⟨nt9, _, _, nn9, nk9, nl9, rfl, rfl, by show 2 ≤ sizeLine; decide, .cons ⟨_, rfl⟩ (.cons ⟨_, rfl⟩ .nil)⟩
    , nk_no⟩
  have ER : Ers K mg CB CT CL := ⟨PySem.W.mg_of X G aCL, PySem.W.mg_of X G aCB, PySem.W.mg_of X G aCT, ⟨hg_CB, hk_CB, xe_CB, hd_CB, ha_CB, hn_CB, ht_CB, hm_CB⟩, f_CB_field, PySem.W.exm_ref xe_CB hd_CB xt_CB ls_CB, kL_CB, kV_CB, kT_CB⟩
  have FC : InitD K fc _ := ⟨⟨occ, odc, .none, .ref KD, dcc, pmc, anc, cdc, ctc, slc, rfl, w_l, w_c, .inl ⟨rfl, rfl⟩, .inr ⟨KD, rfl, fun q hq => by
    simp only [List.mem_cons, List.not_mem_nil, or_false] at hq
    rcases hq with rfl | rfl | rfl | rfl | rfl | rfl | rfl | rfl | rfl
    · exact ⟨_, kw_joint, ⟨_, rfl⟩⟩
    · exact ⟨_, kw_over, ⟨_, rfl⟩⟩
    · exact ⟨_, kw_keep, ⟨_, rfl⟩⟩
    · exact ⟨_, kw_orphan, ⟨_, rfl⟩⟩
    · exact ⟨_, kw_widow, ⟨_, rfl⟩⟩
    · exact ⟨_, kw_wait, ⟨_, rfl⟩⟩
    · exact ⟨_, kw_columns, ⟨_, rfl⟩⟩
    · exact ⟨_, kw_gutter, ⟨_, rfl⟩⟩
    · exact ⟨_, kw_full, rfl⟩
    ⟩⟩, w_k⟩
  exact ⟨PySem.W.fnOf "law" "law" (defArgs sLaw) (defBody sLaw) (defScope sLaw) .none kV20 dc20 pm20 an20 cd20 ct20, fun s v => .of_eq rfl, fun base _ _ =>
    ok_law B T I M FC NT N (PySem.W.mg_of X G aND) ER fd_l rfl ic_no ic_nt F20 F21 b21 ⟨a21, i21⟩ F22 ⟨a22, i22, k22⟩ F1 b1 (PySem.W.mg_of X G a1) F2 b2 (PySem.W.mg_of X G a2) F3 b3 (PySem.W.mg_of X G a3) F4 b4 (PySem.W.mg_of X G a4) F5 b5 (PySem.W.mg_of X G a5) F6 b6 (PySem.W.mg_of X G a6) F7 b7 (PySem.W.mg_of X G a7) F8 b8 (PySem.W.mg_of X G a8) F9 b9 (PySem.W.mg_of X G a9) F10 b10 (PySem.W.mg_of X G a10) F11 b11 (PySem.W.mg_of X G a11) F12 b12 (PySem.W.mg_of X G a12) F13 b13 (PySem.W.mg_of X G a13) F14 b14 (PySem.W.mg_of X G a14) F15 b15 (PySem.W.mg_of X G a15) F16 b16 (PySem.W.mg_of X G a16) F17 b17 (PySem.W.mg_of X G a17) F18 b18 (PySem.W.mg_of X G a18) F19 b19 (PySem.W.mg_of X G a19)⟩
end K35
open PySem PySem.W PyProof.Rows
set_option maxRecDepth 100000 in
set_option maxHeartbeats 0 in
theorem PySem.Challenge.cw_laidforall_k35_books_holds : PySem.Challenge.rw_laidforall_k35_books.Holds := by
  w_on; o_law; k_head; (case hw => w_witness2)
  k_fill
  refine L2.walk_of (l := PySem.Challenge.rw_laidforall_k35_books) (n := 63) (k := 9) (x := "_law_script") (CX := fun _ => L2.CX0) (sp := fun w => K35.spLaw _) rfl (by decide) rfl ⟨rfl, by decide, by decide⟩ (fun w h Y => PySem.W.kIn_of Y) ?F (fun _ _ a ns hl _ hS => ⟨a, ns, rfl, hS, hl, fun _ => rfl⟩) (fun _ _ _ _ _ h => h)
  case F =>
    intro w mg fa h KX G hmg
    refine' K35.all_mk KX G hmg ?zz_aC ?zz_pgC ?zz_hdC ?zz_poC ?zz_saC ?zz_mkC ?zz_kcC ?zz_nC_room ?zz_nC_height ?zz_nC_joint ?zz_nC_over ?zz_nC_keep ?zz_nC_orphan ?zz_nC_widow ?zz_nC_wait ?zz_nC_columns ?zz_nC_gutter ?zz_nC_full ?zz_nC_worths ?zz_aCL ?zz_aCT ?zz_aND ?zz_aCB ?zz_x_CB ?zz_xb_CB ?zz_sa_CB ?zz_xe_CB ?zz_xt_CB ?zz_xk_CB ?zz_f_CB_field ?zz_hg_CB ?zz_hk_CB ?zz_hd_CB ?zz_ha_CB ?zz_hn_CB ?zz_ht_CB ?zz_hm_CB ?zz_ls_CB ?zz_kL_CB ?zz_kV_CB ?zz_kT_CB ?zz_ic_ha ?zz_ic_hn ?zz_ic_ht ?zz_ic_hm ?zz_ic_me ?zz_ic_kl ?zz_ic_kt ?zz_ic_no ?zz_ic_nt ?zz_w_a ?zz_w_i ?zz_w_k ?zz_w_l ?zz_w_c ?zz_fd_at ?zz_fd_rd ?zz_fd_ga ?zz_fd_l ?zz_kw_joint ?zz_kw_over ?zz_kw_keep ?zz_kw_orphan ?zz_kw_widow ?zz_kw_wait ?zz_kw_columns ?zz_kw_gutter ?zz_kw_full ?zz_nd_at ?zz_nd_lit ?zz_nd_low ?zz_nk0 ?zz_nl0 ?zz_nk1 ?zz_nl1 ?zz_nk2 ?zz_nl2 ?zz_nk3 ?zz_nl3 ?zz_nk4 ?zz_nl4 ?zz_nk5 ?zz_nl5 ?zz_nk6 ?zz_nl6 ?zz_nk7 ?zz_nl7 ?zz_nk8 ?zz_nl8 ?zz_nk9 ?zz_nl9 ?zz_nk_no ?zz_a1 ?zz_l1 ?zz_c1 ?zz_k1 ?zz_a2 ?zz_l2 ?zz_c2 ?zz_k2 ?zz_a3 ?zz_l3 ?zz_c3 ?zz_k3 ?zz_a4 ?zz_l4 ?zz_c4 ?zz_k4 ?zz_a5 ?zz_l5 ?zz_c5 ?zz_k5 ?zz_a6 ?zz_l6 ?zz_c6 ?zz_k6 ?zz_a7 ?zz_l7 ?zz_c7 ?zz_k7 ?zz_a8 ?zz_l8 ?zz_c8 ?zz_k8 ?zz_a9 ?zz_l9 ?zz_c9 ?zz_k9 ?zz_a10 ?zz_l10 ?zz_c10 ?zz_k10 ?zz_a11 ?zz_l11 ?zz_c11 ?zz_k11 ?zz_a12 ?zz_l12 ?zz_c12 ?zz_k12 ?zz_a13 ?zz_l13 ?zz_c13 ?zz_k13 ?zz_a14 ?zz_l14 ?zz_c14 ?zz_k14 ?zz_a15 ?zz_l15 ?zz_c15 ?zz_k15 ?zz_a16 ?zz_l16 ?zz_c16 ?zz_k16 ?zz_a17 ?zz_l17 ?zz_c17 ?zz_k17 ?zz_a18 ?zz_l18 ?zz_c18 ?zz_k18 ?zz_a19 ?zz_l19 ?zz_c19 ?zz_k19 ?zz_a20 ?zz_l20 ?zz_c20 ?zz_k20 ?zz_a21 ?zz_i21 ?zz_l21 ?zz_c21 ?zz_k21 ?zz_a22 ?zz_i22 ?zz_l22 ?zz_c22 ?zz_k22 ?zz_a23 ?zz_l23 ?zz_c23 ?zz_k23 ?zz_t23 ?zz_z0 ?zz_z1 ?zz_z2 ?zz_z3 ?zz_z4 ?zz_z5 ?zz_z6 ?zz_z7 ?zz_z8 ?zz_z9 ?zz_z10 ?zz_z11
    (case zz_aC => first | k_is | rfl)
    (case zz_pgC => first | k_is | rfl)
    (case zz_hdC => first | k_is | rfl)
    (case zz_poC => first | k_is | rfl)
    (case zz_saC => first | k_is | rfl)
    (case zz_mkC => first | k_is | rfl)
    (case zz_kcC => first | k_is | rfl)
    (case zz_nC_room => first | k_is | rfl)
    (case zz_nC_height => first | k_is | rfl)
    (case zz_nC_joint => first | k_is | rfl)
    (case zz_nC_over => first | k_is | rfl)
    (case zz_nC_keep => first | k_is | rfl)
    (case zz_nC_orphan => first | k_is | rfl)
    (case zz_nC_widow => first | k_is | rfl)
    (case zz_nC_wait => first | k_is | rfl)
    (case zz_nC_columns => first | k_is | rfl)
    (case zz_nC_gutter => first | k_is | rfl)
    (case zz_nC_full => first | k_is | rfl)
    (case zz_nC_worths => first | k_is | rfl)
    (case zz_aCL => first | k_is | rfl)
    (case zz_aCT => first | k_is | rfl)
    (case zz_aND => first | k_is | rfl)
    (case zz_aCB => first | k_is | rfl)
    (case zz_x_CB => first | k_is | rfl)
    (case zz_xb_CB => decide +kernel)
    (case zz_sa_CB => first | k_is | rfl)
    (case zz_xe_CB => first | k_is | rfl)
    (case zz_xt_CB => first | k_is | rfl)
    (case zz_xk_CB => first | k_is | rfl)
    (case zz_f_CB_field => first | k_is | rfl)
    (case zz_hg_CB => first | k_is | rfl)
    (case zz_hk_CB => first | k_is | rfl)
    (case zz_hd_CB => first | k_is | rfl)
    (case zz_ha_CB => first | k_is | rfl)
    (case zz_hn_CB => first | k_is | rfl)
    (case zz_ht_CB => first | k_is | rfl)
    (case zz_hm_CB => first | k_is | rfl)
    (case zz_ls_CB => first | k_is | rfl)
    (case zz_kL_CB => first | k_is | rfl)
    (case zz_kV_CB => first | k_is | rfl)
    (case zz_kT_CB => first | k_is | rfl)
    (case zz_ic_ha => first | k_is | rfl)
    (case zz_ic_hn => first | k_is | rfl)
    (case zz_ic_ht => first | k_is | rfl)
    (case zz_ic_hm => first | k_is | rfl)
    (case zz_ic_me => first | k_is | rfl)
    (case zz_ic_kl => first | k_is | rfl)
    (case zz_ic_kt => first | k_is | rfl)
    (case zz_ic_no => first | k_is | rfl)
    (case zz_ic_nt => first | k_is | rfl)
    (case zz_w_a => first | k_is | rfl)
    (case zz_w_i => first | k_is | rfl)
    (case zz_w_k => first | k_is | rfl)
    (case zz_w_l => first | k_is | rfl)
    (case zz_w_c => first | k_is | rfl)
    (case zz_fd_at => first | k_is | rfl)
    (case zz_fd_rd => first | k_is | rfl)
    (case zz_fd_ga => first | k_is | rfl)
    (case zz_fd_l => first | k_is | rfl)
    (case zz_kw_joint => first | k_is | rfl)
    (case zz_kw_over => first | k_is | rfl)
    (case zz_kw_keep => first | k_is | rfl)
    (case zz_kw_orphan => first | k_is | rfl)
    (case zz_kw_widow => first | k_is | rfl)
    (case zz_kw_wait => first | k_is | rfl)
    (case zz_kw_columns => first | k_is | rfl)
    (case zz_kw_gutter => first | k_is | rfl)
    (case zz_kw_full => first | k_is | rfl)
    (case zz_nd_at => first | k_is | rfl)
    (case zz_nd_lit => exact ⟨⟨_, _, rfl, rfl⟩, ⟨_, _, rfl, rfl⟩, ⟨_, _, rfl, rfl⟩, ⟨_, _, rfl, rfl⟩, ⟨_, _, rfl, rfl⟩, ⟨_, _, rfl, rfl⟩, ⟨_, _, rfl, rfl⟩, ⟨_, _, rfl, rfl⟩, ⟨_, _, rfl, rfl⟩, ⟨_, _, rfl, rfl⟩, trivial⟩)
    (case zz_nd_low => first | k_is | rfl)
    (case zz_nk0 => first | k_is | rfl)
    (case zz_nl0 => first | k_is | rfl)
    (case zz_nk1 => first | k_is | rfl)
    (case zz_nl1 => first | k_is | rfl)
    (case zz_nk2 => first | k_is | rfl)
    (case zz_nl2 => first | k_is | rfl)
    (case zz_nk3 => first | k_is | rfl)
    (case zz_nl3 => first | k_is | rfl)
    (case zz_nk4 => first | k_is | rfl)
    (case zz_nl4 => first | k_is | rfl)
    (case zz_nk5 => first | k_is | rfl)
    (case zz_nl5 => first | k_is | rfl)
    (case zz_nk6 => first | k_is | rfl)
    (case zz_nl6 => first | k_is | rfl)
    (case zz_nk7 => first | k_is | rfl)
    (case zz_nl7 => first | k_is | rfl)
    (case zz_nk8 => first | k_is | rfl)
    (case zz_nl8 => first | k_is | rfl)
    (case zz_nk9 => first | k_is | rfl)
    (case zz_nl9 => first | k_is | rfl)
    (case zz_nk_no => first | k_is | rfl)
    (case zz_a1 => first | k_is | rfl)
    (case zz_l1 => first | k_is | rfl)
    (case zz_c1 => first | k_is | rfl)
    (case zz_k1 => first | k_is | rfl)
    (case zz_a2 => first | k_is | rfl)
    (case zz_l2 => first | k_is | rfl)
    (case zz_c2 => first | k_is | rfl)
    (case zz_k2 => first | k_is | rfl)
    (case zz_a3 => first | k_is | rfl)
    (case zz_l3 => first | k_is | rfl)
    (case zz_c3 => first | k_is | rfl)
    (case zz_k3 => first | k_is | rfl)
    (case zz_a4 => first | k_is | rfl)
    (case zz_l4 => first | k_is | rfl)
    (case zz_c4 => first | k_is | rfl)
    (case zz_k4 => first | k_is | rfl)
    (case zz_a5 => first | k_is | rfl)
    (case zz_l5 => first | k_is | rfl)
    (case zz_c5 => first | k_is | rfl)
    (case zz_k5 => first | k_is | rfl)
    (case zz_a6 => first | k_is | rfl)
    (case zz_l6 => first | k_is | rfl)
    (case zz_c6 => first | k_is | rfl)
    (case zz_k6 => first | k_is | rfl)
    (case zz_a7 => first | k_is | rfl)
    (case zz_l7 => first | k_is | rfl)
    (case zz_c7 => first | k_is | rfl)
    (case zz_k7 => first | k_is | rfl)
    (case zz_a8 => first | k_is | rfl)
    (case zz_l8 => first | k_is | rfl)
    (case zz_c8 => first | k_is | rfl)
    (case zz_k8 => first | k_is | rfl)
    (case zz_a9 => first | k_is | rfl)
    (case zz_l9 => first | k_is | rfl)
    (case zz_c9 => first | k_is | rfl)
    (case zz_k9 => first | k_is | rfl)
    (case zz_a10 => first | k_is | rfl)
    (case zz_l10 => first | k_is | rfl)
    (case zz_c10 => first | k_is | rfl)
    (case zz_k10 => first | k_is | rfl)
    (case zz_a11 => first | k_is | rfl)
    (case zz_l11 => first | k_is | rfl)
    (case zz_c11 => first | k_is | rfl)
    (case zz_k11 => first | k_is | rfl)
    (case zz_a12 => first | k_is | rfl)
    (case zz_l12 => first | k_is | rfl)
    (case zz_c12 => first | k_is | rfl)
    (case zz_k12 => first | k_is | rfl)
    (case zz_a13 => first | k_is | rfl)
    (case zz_l13 => first | k_is | rfl)
    (case zz_c13 => first | k_is | rfl)
    (case zz_k13 => first | k_is | rfl)
    (case zz_a14 => first | k_is | rfl)
    (case zz_l14 => first | k_is | rfl)
    (case zz_c14 => first | k_is | rfl)
    (case zz_k14 => first | k_is | rfl)
    (case zz_a15 => first | k_is | rfl)
    (case zz_l15 => first | k_is | rfl)
    (case zz_c15 => first | k_is | rfl)
    (case zz_k15 => first | k_is | rfl)
    (case zz_a16 => first | k_is | rfl)
    (case zz_l16 => first | k_is | rfl)
    (case zz_c16 => first | k_is | rfl)
    (case zz_k16 => first | k_is | rfl)
    (case zz_a17 => first | k_is | rfl)
    (case zz_l17 => first | k_is | rfl)
    (case zz_c17 => first | k_is | rfl)
    (case zz_k17 => first | k_is | rfl)
    (case zz_a18 => first | k_is | rfl)
    (case zz_l18 => first | k_is | rfl)
    (case zz_c18 => first | k_is | rfl)
    (case zz_k18 => first | k_is | rfl)
    (case zz_a19 => first | k_is | rfl)
    (case zz_l19 => first | k_is | rfl)
    (case zz_c19 => first | k_is | rfl)
    (case zz_k19 => first | k_is | rfl)
    (case zz_a20 => first | k_is | rfl)
    (case zz_l20 => first | k_is | rfl)
    (case zz_c20 => first | k_is | rfl)
    (case zz_k20 => first | k_is | rfl)
    (case zz_a21 => first | k_is | rfl)
    (case zz_i21 => first | k_is | rfl)
    (case zz_l21 => first | k_is | rfl)
    (case zz_c21 => first | k_is | rfl)
    (case zz_k21 => first | k_is | rfl)
    (case zz_a22 => first | k_is | rfl)
    (case zz_i22 => first | k_is | rfl)
    (case zz_l22 => first | k_is | rfl)
    (case zz_c22 => first | k_is | rfl)
    (case zz_k22 => first | k_is | rfl)
    (case zz_a23 => first | k_is | rfl)
    (case zz_l23 => first | k_is | rfl)
    (case zz_c23 => first | k_is | rfl)
    (case zz_k23 => first | k_is | rfl)
    (case zz_t23 => first | k_is | rfl)
    (case zz_z0 => first | k_is | rfl)
    (case zz_z1 => first | k_is | rfl)
    (case zz_z2 => first | k_is | rfl)
    (case zz_z3 => first | k_is | rfl)
    (case zz_z4 => first | k_is | rfl)
    (case zz_z5 => first | k_is | rfl)
    (case zz_z6 => first | k_is | rfl)
    (case zz_z7 => first | k_is | rfl)
    (case zz_z8 => first | k_is | rfl)
    (case zz_z9 => first | k_is | rfl)
    (case zz_z10 => first | k_is | rfl)
    (case zz_z11 => first | k_is | rfl)

