import PyProof.Rows.All
import Wide.All
import OpenK.AllK
import Wide.FinOn
import HandS.ForMost
import HandS.OwnIter
import HandS.IterNext
import HandS.IterVal
import HandS.Call
import HandS.ExcOwn
import HandS.Exc
import HandS.Star
import HandS.MakeKw
import PyProof.Rows.CallKw2
import HandS.Dict
import HandS.Iter
import HandS.ExcInit
import HandS.ExcCtx
import HandS.HotCalls
import HandS.Words
import HandS.WordsExc
import HandS.Zip
import HandS.Style
import HandS.ListItems
import KE.GoesMore
import KE.GoesZip
import HandS.Comp
import HandS.Walk
import HandS.Zip0
import KE.KDictZip
import KE.KIsAll
import KE.KTryMore
import HandS.More
import HandS.OwnEq
import HandS.SlotsOwn
import HandS.Property
import KE.KCallOwn
import HandS.CallSlots
import HandS.ClsMeth
import PyProof.TupleIter
import HandS.ExcIs
import HandS.ExcField
import HandS.IsInst
import HandS.ForExc
import HandS.TupAny
import HandS.NoneIn
import HandS.Evl
import HandS.FStr
import HandS.Text
import HandS.StrMore
import HandS.Deep
import HandS.Codes
import HandS.Defaults
import PySem.Challenge.RW_laidforall_k34_galleys
set_option Elab.async false
set_option linter.all false
set_option maxRecDepth 100000
set_option maxHeartbeats 2000000
namespace RO
open PySem PySem.Spec PyProof.Rows L2 ItX
/-! ### a def whose promise knows how large the heap was -/
structure FnN (P : Program) (w : World) (K : PySem.W.Frag) (mg : Str → Option Value) (base : Heap) (CX : CXT) (k : Nat) (f : Addr) (fd : FuncData) (ps : List Str) (sp : Nat → Sp) : Prop where
  len : ∀ n vs H Q E, sp n vs H Q E → vs.length = ps.length
  run : ∀ (A : Around) (outer : List Env) (s : Shared) (H : Hp) (args : Args) (us : List Value) (vs : List V) (Q : VK) (E : XK), Room k A → Env0 P w K mg base A outer s H → BindsTo s fd args (ps.zip us) → Vals vs us → sp s.heap.objs.size vs H Q E →
    codeAny (model P w) A (.call (.ref f) args) (CR CX outer P w H s Q E) s
theorem fn_ofN {CX : CXT} {P : Program} {w : World} {K : PySem.W.Frag} {mg : Str → Option Value} {base : Heap} {k : Nat} {f : Addr} {name qual : Str} {params : Arguments} {body : List Stmt} {scope : Scope} {dV kV doc pm cdv ct oc : Value} {an od : Option Addr}
    {osl : Array (Option Value)} {N ps : List Str} {sp : Nat → Sp} (lk : K.lookup f = some ⟨oc, od, .func (PySem.W.fnOf name qual params body scope dV kV doc pm an cdv ct), osl⟩) (hcd : PySem.W.codeIn K cdv qual = true) (S : FnScope N ps scope)
    (len : ∀ n vs H Q E, sp n vs H Q E → vs.length = ps.length)
    (hbody : ∀ (A : Around) (outer : List Env) (s : Shared) (H : Hp) (vs : List V) (Q : VK) (E : XK), Room k (A.deeper (envOfC qual scope s.heap.objs.size f cdv)) → sp s.heap.objs.size vs H Q E →
      ∃ t, PSs (cxOf CX P w K mg base N qual scope f cdv A outer s H E) body t ∧ t { nx := fun _ H' => Q .non H', rt := Q } (start N vs) H) :
    FnN P w K mg base CX (k + 1) f (PySem.W.fnOf name qual params body scope dV kV doc pm an cdv ct) ps sp := by
  refine ⟨len, fun A outer s H args us vs Q E hr e0 hb r hsp => ?_⟩
  have hl := len _ _ _ _ _ hsp
  have KX : K.In s.heap := e0.mod.kin.keeps fun b o e => (e0.bs b o e).1
  have lim : s.heap.NoLimit := e0.mod.nolimit.keeps fun b o e => (e0.bs b o e).1
  have hkind : ∀ y ∈ ps.zip us, scope.names.lookup y.1 = some .local ∨ (scope.names.lookup y.1 = some .cell ∧ ((cellsFrom (s.heap.objs.size + 1) scope.names []).lookup y.1).isSome = true) := fun ⟨n, v⟩ hy => by
    rcases S.par n (List.of_mem_zip hy).1 with q | q
    · exact .inl q
    · exact .inr ⟨q, PySem.W.cellsFrom_some _ _ _ (.inl q)⟩
  refine codeAny_call_function hr.depth (KX _ _ lk) rfl S.co S.gen rfl (PySem.W.codeRec_of KX hcd) (hb _ _ _ _ ?_)
  refine wpAny_newFunctionEnv_cells S.kind hkind fun env he s1 x => ?_
  subst he
  refine ⟨lim.keeps x.toInCall.keep, codeAny_func ?_⟩
  obtain ⟨t, ht, hq⟩ := hbody A outer s H vs Q E (hr.deeper _) hsp
  have I : Inv (cxOf CX P w K mg base N qual scope f cdv A outer s H E) [] (start N vs) H s1 := inv_start S hr.hd e0 hl r x
  refine wpAny_mono (ht.run [] s1 (start N vs) H _ I hq) (fun fl s' hs => ?_) fun e s' hs => hs
  have fin : ∀ {σ' : L2.St} {H' : Hp} {v : V} {u : Value}, Inv (cxOf CX P w K mg base N qual scope f cdv A outer s H E) [] σ' H' s' → RelV v u → Q v H' → CE outer P w H s Q u s' :=
    fun {σ' H' v u} J rv q => ⟨v, H', J.os, J.bare, J.base, J.hok, rv, q⟩
  cases fl with
  | ret u =>
    obtain ⟨v, σ', H', J, rv, q⟩ := hs
    exact fin J rv q
  | next =>
    obtain ⟨σ', H', J, q⟩ := hs
    exact fin (v := V.non) (u := Value.none) J rfl q
  | brk =>
    obtain ⟨_, _, _, q⟩ := hs
    exact False.elim q
  | cont =>
    obtain ⟨_, _, _, q⟩ := hs
    exact False.elim q
section
variable {P : Program} {w : World} {K : PySem.W.Frag} {mg : Str → Option Value} {base : Heap}
theorem fun_okN {x qual : Str} {st : Stmt} {f : Addr} {fd : FuncData} {N ps : List Str} {k : Nat} {sp : Nat → Sp} (F : Fun K x qual st f fd) (S : FnScope N ps (defScope st)) (len : ∀ n vs H Q E, sp n vs H Q E → vs.length = ps.length)
    (hbody : ∀ (cdv : Value) (A : Around) (outer : List Env) (s : Shared) (H : Hp) (vs : List V) (Q : VK) (E : XK), Room k (A.deeper (envOfC qual (defScope st) s.heap.objs.size f cdv)) → sp s.heap.objs.size vs H Q E →
      ∃ t, PSs (cxOf CX0 P w K mg base N qual (defScope st) f cdv A outer s H E).nox (defBody st) t ∧ t { nx := fun _ H' => Q .non H', rt := Q } (start N vs) H) : FnN P w K mg base CX0 (k + 1) f fd ps sp := by
  obtain ⟨oc, od, kV, doc, pm, an, cdv, ct, osl, rfl, lk, hcd⟩ := F.ex
  refine fn_ofN lk hcd S len fun A outer s H vs Q E hr hsp => ?_
  obtain ⟨t, h, q⟩ := hbody cdv A outer s H vs Q E hr hsp
  exact ⟨t, h.nox, q⟩
end
/-- __iter__ hands back a new iterator over the list in a field -/
def spIt (C : Addr) (fld : Str) (n : Nat) : Sp := fun vs H Q _ => ∃ (p dx l : Addr) (fs : List (Str × V)), vs = [.ref p] ∧ H p = some (.ins C dx fs) ∧ fs.lookup fld = some (.ref l) ∧ (∃ zs, H l = some (.lst zs)) ∧ ∀ it, H it = none → n ≤ it → Q (.ref it) (upd H it (ItO l it 0))
/-- what a class with such an __iter__ has -/
structure ItrC (X : Cx) (C fi : Addr) (fdI : FuncData) (fld : Str) (k : Nat) : Prop where
  it : PySem.W.findIn X.K (.ref C) "__iter__" = some (some (.ref fi))
  itF : PySem.W.isFn X.K (.ref fi) = true
  fn : FnN X.prog X.w X.K X.mg X.base CX0 k fi fdI ["self"] (spIt C fld)
  bi : Binds X.K fdI ["self"] []
section
variable {X : Cx} {pins : List (Addr × Obj)} {σ : L2.St} {H : Hp} {s : Shared} {A1 : Around} {C fi fl p dx l : Addr} {fdI fdL : FuncData} {fld : Str} {k : Nat} {fs : List (Str × V)} {zs : List V}
theorem env_sub (I : Inv X pins σ H s) (sb : Sub X k A1) : Env0 X.prog X.w X.K X.mg X.base A1 X.stack s H := by
  have e := I.env0
  exact ⟨by rw [sb.fr]; exact e.frames, e.mod, e.bs, e.bsz, e.funs, e.frf, e.hok, e.bare⟩
/-- iter(o) -/
theorem own_iter {Q : Value → Shared → Prop} (sb : Sub X k A1) (c : ItrC X C fi fdI fld k) (I : Inv X pins σ H s) (hp : H p = some (.ins C dx fs)) (hf : fs.lookup fld = some (.ref l)) (hl : H l = some (.lst zs))
    (h : ∀ it s', H it = none → s.heap.objs.size ≤ it → s'.heap.IsListIter it l 0 → s'.heap.get? it = some (GNX.itObj l 0) → Inv X pins σ H s' → Q (.ref it) s') : wpAny (model X.prog X.w) A1 (pyIter (.ref p)) Q X.xe s := by
  obtain ⟨mA, J, _⟩ := ins_get I.hok hp
  obtain ⟨od, J, _⟩ := J.look
  obtain ⟨m0, hF⟩ := I.fr
  refine PySem.W.owit_iter hF I.ok.mod.kin J c.it c.itF ?_
  have hsp : spIt C fld s.heap.objs.size [.ref p] H (fun v H' => ∃ it, v = .ref it ∧ H it = none ∧ s.heap.objs.size ≤ it ∧ H' = upd H it (ItO l it 0)) E0 := ⟨p, dx, l, fs, rfl, hp, hf, ⟨zs, hl⟩, fun it h1 h2 => ⟨it, rfl, h1, h2, rfl⟩⟩
  have r2 : Vals [V.ref p] [Value.ref p] := .cons rfl .nil
  refine wpAny_call (codeAny_mono (c.fn.run A1 X.stack s H ⟨[.ref p], []⟩ [.ref p] [.ref p] _ E0 sb.room (env_sub I sb) (by
    have := c.bi s [.ref p] I.kIn rfl
    simpa using this) r2 hsp) fun r s' hq => ?_)
  cases r with
  | error e => exact absurd hq (fun z => z.elim)
  | ok fl =>
    cases fl with
    | next => exact False.elim hq
    | brk => exact False.elim hq
    | cont => exact False.elim hq
    | ret u =>
      obtain ⟨v, H', I', rv, it, rfl, hn, hsz, rfl⟩ := I.after hq
      cases rv
      have eo := itO_get I' upd_same
      have I2 := inv_drop I' (show upd H it (ItO l it 0) it = some (.ext _) from upd_same)
      rw [dropH_upd hn] at I2
      have hT : s'.TypeIs (.ref it) "list_iterator" := ⟨_, eo, rfl⟩
      unfold PySem.W.OwitIt
      exact wpAny_specialOf (name := Str.ofString "__next__") hT slot_listiter_next.lookup (h it s' hn hsz ⟨_, eo, rfl, rfl⟩ eo I2)
/-- len(o) by an own __len__ that only tells -/
theorem own_len {Q : Value → Shared → Prop} {E' : Value → Shared → Prop} {sp : Sp} {m : Nat} (sb : Sub X k A1.in1) (hlen : PySem.W.findIn X.K (.ref C) "__len__" = some (some (.ref fl))) (hf : PySem.W.typeIn X.K (.ref fl) = some (.type "function")) (F : FnOk X.prog X.w X.K X.mg X.base CX0 k fl fdL ["self"] sp) (b : Binds X.K fdL ["self"] [])
    (I : Inv X pins σ H s) (hp : H p = some (.ins C dx fs)) (hm : m ≤ sizeLine) (hsp : sp [.ref p] H (fun v H' => v = .int (m : Int) ∧ H' = H) E0)
    (h : ∀ t s', Inv X pins σ H s' → Q (.int (m : Int) t) s') : wpAny (model X.prog X.w) A1 (call (.builtin "len") [.ref p]) Q E' s := by
  obtain ⟨mA, J, _⟩ := ins_get I.hok hp
  obtain ⟨od, J, _⟩ := J.look
  refine Calls.call_function_entry kind_len plain_len entry_len (args_len1 _) ?_
  unfold Builtin.«len»
  refine wpAny_bind (m := oneArg "len" _) (wpAny_pure ?_)
  have r2 : Vals [V.ref p] [Value.ref p] := .cons rfl .nil
  refine wpAny_bind (m := callSpecial? (.ref p) (PySem.Str.ofString "__len__")) (PySem.W.special_fn I.kIn J hlen hf ?_)
  refine wpAny_call (codeAny_mono (F.run A1.in1 X.stack s H ⟨[.ref p], []⟩ [.ref p] [.ref p] _ E0 sb.room (env_sub I sb) (by
    have := b s [.ref p] I.kIn rfl
    simpa using this) r2 hsp) fun r s' hq => ?_)
  cases r with
  | error e => exact absurd hq (fun z => z.elim)
  | ok fl =>
    cases fl with
    | next => exact False.elim hq
    | brk => exact False.elim hq
    | cont => exact False.elim hq
    | ret u =>
      obtain ⟨v, H', I', rv, rfl, rfl⟩ := I.after hq
      obtain ⟨t, rfl⟩ := rv
      have hs : sizeLine = 16777216 := sizeLine_eq
      refine wpAny_bind (wpAny_holding (wpAny_pure ?_))
      refine wpAny_bind (wpAny_letGo ?_)
      show wpAny _ _ (if ((m : Nat) : Int) < 0 then _ else _) _ _ _
      rw [if_neg (by omega)]
      show wpAny _ _ (if ((m : Nat) : Int) ≥ 2 ^ 63 then _ else _) _ _ _
      rw [if_neg (by omega)]
      exact wpAny_bind (wpAny_mkInt (wpAny_pure ⟨_, rfl, h _ _ (I'.tok _)⟩))
end
section
variable {X : Cx} {C fi fl : Addr} {fdI fdL : FuncData} {fld : Str} {k : Nat}
/-! ### for x in o -/
def iOwnL (C : Addr) (fld : Str) (K : PySem.W.Frag) (te : TE) : TI := fun σ H R => te σ H fun v H1 => ∃ (p dx l : Addr) (fs : List (Str × V)) (zs : List V), v = .ref p ∧ H1 p = some (.ins C dx fs) ∧ fs.lookup fld = some (.ref l) ∧ H1 l = some (.lst zs) ∧ R (Itl K l) H1
theorem pi_ownL {tg e : Expr} {te : TE} (c : ItrC X C fi fdI fld k) (hr : Room k X.A) (he : PE X e te) : PI X tg e (iOwnL C fld X.K te) := by
  refine ⟨fun pins s σ H R I h => ?_⟩
  refine thn (he.run pins s σ H _ I h) fun v s1 ⟨y, H1, I1, ry, p, dx, l, fs, zs, ey, hp, hf, hl, q⟩ => ?_
  subst ey
  cases ry
  refine own_iter (⟨hr, rfl⟩ : Sub X k X.A) c I1 hp hf hl fun it s' hn hsz hli eo I' => ?_
  exact ⟨it, [it], _, _, H1, rfl, I', turn_list l it, hli, fun b hb => by rw [List.mem_singleton.mp hb]; exact I1.fpOk hsz hn, q⟩
/-! ### len(o) -/
theorem call_lenOwn {sp : Sp} (hlen : PySem.W.findIn X.K (.ref C) "__len__" = some (some (.ref fl))) (hf : PySem.W.typeIn X.K (.ref fl) = some (.type "function")) (F : FnOk X.prog X.w X.K X.mg X.base CX0 k fl fdL ["self"] sp) (b : Binds X.K fdL ["self"] []) (hr : Room (k + 1) X.A) :
    CallR X (.builtin "len") (fun xs H Q => ∃ (p dx : Addr) (fs : List (Str × V)) (m : Nat), xs = [.ref p] ∧ H p = some (.ins C dx fs) ∧ m ≤ sizeLine ∧ sp [.ref p] H (fun v H' => v = .int (m : Int) ∧ H' = H) E0 ∧ Q (.int (m : Int)) H) := by
  intro pins s σ H xs us Q I r h
  obtain ⟨p, dx, fs, m, rfl, hp, hm, hsp, q⟩ := h
  obtain ⟨u, rfl, ru⟩ := vals1 r
  obtain rfl : u = Value.ref p := ru
  exact own_len (Sub.in1 (⟨hr, rfl⟩ : Sub X (k + 1) X.A)) hlen hf F b I hp hm hsp fun t s' I' => ⟨.int (m : Int), H, I', ⟨_, rfl⟩, q⟩
end
end RO

set_option maxRecDepth 100000
set_option maxHeartbeats 2000000
namespace RO
open PySem PySem.Spec PyProof.Rows L2 ItX
/-! ### list(o) -/
/-- what a class with an own __iter__ and __len__ has -/
structure LenC (X : Cx) (C fl : Addr) (fdL : FuncData) (sp : Sp) (k : Nat) : Prop where
  at_ : PySem.W.findIn X.K (.ref C) "__len__" = some (some (.ref fl))
  ty : PySem.W.typeIn X.K (.ref fl) = some (.type "function")
  fn : FnOk X.prog X.w X.K X.mg X.base CX0 k fl fdL ["self"] sp
  bi : Binds X.K fdL ["self"] []
section
variable {X : Cx} {pins : List (Addr × Obj)} {σ : L2.St} {H : Hp} {s : Shared} {A1 : Around} {C fi fl p dx l q it : Addr} {fdI fdL : FuncData} {fld : Str} {k : Nat} {fs : List (Str × V)} {zs : List V}
theorem ext_loop {Rs : Result → Shared → Prop} (hh : A1.in1.handled = none) (nql : l ≠ q) (hl : H l = some (.lst zs)) (hsz : zs.length < sizeLine) (hq0 : H q = some (.lst []))
    (hdone : ∀ s, Inv X pins σ (upd H q (.lst zs)) s → Rs (.ok (.ret .none)) s) :
    ∀ (n i : Nat) (s : Shared), n + i = zs.length → Inv X pins σ (upd H q (.lst (zs.take i))) s → s.heap.IsListIter it l i → FpOk X pins H it →
      codeAny (model X.prog X.w) A1 (.builtin "list.extend.loop" ⟨[.ref q, .ref it, .none], []⟩) Rs s := by
  intro n
  induction n with
  | zero =>
    intro i s hi I st fp
    refine codeAny_builtin PySem.F.entry_extend_loop ?_
    rw [Around.under_plainId PySem.F.plain_extend_loop _]
    show wpAny _ A1.in1 (pyNext (.ref it) >>= _) _ _ s
    have hl' : upd H q (.lst (zs.take i)) l = some (.lst zs) := by rw [upd_ne nql]; exact hl
    obtain ⟨its, rv, pl, _⟩ := I.list (SqL.of (K := X.K) hl')
    have hlen := rv.length
    obtain ⟨f0, f1, f2, f3, f4, f5⟩ := fp
    have niq : it ≠ q := fun e => by rw [e, hq0] at f0; cases f0
    have e1 : zs.take i = zs := List.take_of_length_le (by omega)
    refine wpAny_bind (wpAny_pyNext_list_end hh st pl.isList (by simp; omega) fun h' eb => ?_)
    rw [e1] at I
    have I' : Inv X pins σ (upd H q (.lst zs)) { s with heap := h' } := I.turned (t' := s.toks) (fun b o hb e => eb b o hb e) (by rw [upd_ne niq]; exact f0) f1 f3 f4 f5
    exact wpAny_pure (hdone _ I')
  | succ n ih =>
    intro i s hi I st fp
    refine codeAny_builtin PySem.F.entry_extend_loop ?_
    rw [Around.under_plainId PySem.F.plain_extend_loop _]
    show wpAny _ A1.in1 (pyNext (.ref it) >>= _) _ _ s
    have hl' : upd H q (.lst (zs.take i)) l = some (.lst zs) := by rw [upd_ne nql]; exact hl
    obtain ⟨its, rv, pl, _⟩ := I.list (SqL.of (K := X.K) hl')
    have hlen := rv.length
    obtain ⟨f0, f1, f2, f3, f4, f5⟩ := id fp
    have niq : it ≠ q := fun e => by rw [e, hq0] at f0; cases f0
    have hv : zs[i]? = some (zs[i]'(by omega)) := List.getElem?_eq_getElem _
    obtain ⟨u, hu, ru⟩ := rv.get hv
    refine wpAny_bind (wpAny_pyNext_list_item st pl.isList (x := u) (by simpa using hu) fun h' st' sb => ?_)
    have I1 : Inv X pins σ (upd H q (.lst (zs.take i))) { s with heap := h' } := I.turned (t' := s.toks) (fun b o hb e => (sb.2 b hb).trans e) (by rw [upd_ne niq]; exact f0) f1 f3 f4 f5
    show wpAny _ A1.in1 (updateSeq q (·.push u) >>= _) _ _ _
    obtain ⟨z, its2, kk, r2, hl2, e2⟩ := I1.lstM upd_same
    refine wpAny_bind (wpAny_updateSeq e2 rfl (wpAny_pure ⟨plainId_quiet PySem.F.plain_extend_loop _, ?_⟩) (by rw [List.size_toArray, ← hl2, List.length_take]; omega) (by show (its2.toArray.push u).size ≤ sizeLine + 1; rw [Array.size_push, List.size_toArray, ← hl2, List.length_take]; omega))
    have e3 : zs.take (i + 1) = zs.take i ++ [zs[i]'(by omega)] := by rw [List.take_add_one, hv]; rfl
    have I2 := I1.lset (f := (·.push u)) (its' := its2 ++ [u]) (ys := zs.take (i + 1)) (t' := s.toks) upd_same e2 (by simp) (by rw [e3]; exact r2.append (.cons ru .nil)) (by rw [List.length_take]; omega)
    rw [upd_upd] at I2
    refine ih (i + 1) _ (by omega) I2 (st'.at fun o e => ?_) fp
    exact (Heap.get?_update_other _ _ (Ne.symm niq)).trans e
theorem own_extendL {Rs : Result → Shared → Prop} {sp : Sp} {m : Nat} (sb : Sub X (k + 1) A1.in1) (hh : A1.in1.handled = none) (ci : ItrC X C fi fdI fld k) (cl : LenC X C fl fdL sp k) (I : Inv X pins σ H s) (hp : H p = some (.ins C dx fs)) (hf : fs.lookup fld = some (.ref l)) (hl : H l = some (.lst zs)) (hsz : zs.length < sizeLine)
    (hm : m ≤ sizeLine) (hsp : sp [.ref p] H (fun v H' => v = .int (m : Int) ∧ H' = H) E0) (hq : H q = some (.lst [])) (nql : l ≠ q) (hdone : ∀ s, Inv X pins σ (upd H q (.lst zs)) s → Rs (.ok (.ret .none)) s) (herr : ∀ e s, X.xe e s → Rs (.error e) s) :
    wpAny (model X.prog X.w) A1.in1 (Builtin.List.listExtendWith (.ref q) (.ref p) .none)
      (fun fin s' => match fin with | .done f => Rs (.ok f) s' | .again c' => c'.quiet = true ∧ codeAny (model X.prog X.w) A1 c' Rs s') (fun e s' => Rs (.error e) s') s := by
  have hne : q ≠ p := ne_of hq hp (fun z => nomatch z)
  obtain ⟨mA, J, _⟩ := ins_get I.hok hp
  obtain ⟨od, J, _⟩ := J.look
  unfold Builtin.List.listExtendWith
  refine wpAny_bind (J.type.here ?_)
  have h1 : Builtin.List.listSameRef (.ref q) (.ref p) = false := by simp [Builtin.List.listSameRef, hne]
  have h2 : (Value.ref C == Value.type "list") = false := rfl
  have h3 : (Value.ref C == Value.type "tuple") = false := rfl
  simp only [h1, h2, h3, Bool.or_false, Bool.false_eq_true, if_false]
  refine wpAny_bind (wpAny_mono (own_iter (Q := fun v s' => ∃ it, v = .ref it ∧ H it = none ∧ s.heap.objs.size ≤ it ∧ s'.heap.IsListIter it l 0 ∧ s'.heap.get? it = some (GNX.itObj l 0) ∧ Inv X pins σ H s') (sb.mono (Nat.le_succ k)) ci I hp hf hl fun it s' a b c e d => ⟨it, rfl, a, b, c, e, d⟩) (fun v s' hv => ?_) fun e s' he => herr e s' he)
  obtain ⟨it, rfl, hn, hge, st, eo, I'⟩ := hv
  have fp : FpOk X pins H it := I.fpOk hge hn
  have niq : it ≠ q := fun e => by rw [e, hq] at hn; cases hn
  have hint : wpAny (model X.prog X.w) A1.in1 (Builtin.List.listLengthHint (.ref p)) (fun b s2 => Inv X pins σ H s2 ∧ s2.heap.IsListIter it l 0) (fun e s' => Rs (.error e) s') s' := by
    obtain ⟨mA', J', _⟩ := ins_get I'.hok hp
    obtain ⟨od', J', _⟩ := J'.look
    have IP : Inv X ((it, GNX.itObj l 0) :: pins) σ H s' := I'.pins_of fun r hr => by
      rcases List.mem_cons.mp hr with e | hr
      · rw [e]
        exact ⟨eo, hn, fp.2.1, fp.2.2.1, fun v z => by cases z⟩
      · exact I'.pin r (List.mem_append_right _ hr)
    unfold Builtin.List.listLengthHint
    refine wpAny_bind (wpAny_bind (J'.type.here ((PySem.W.looks_findIn I'.kIn cl.at_).here ?_)))
    refine PySem.W.KFB.if_not rfl ?_
    refine PySem.W.KFB.if_so rfl ?_
    refine wpAny_bind (wpAny_rule ?_)
    refine wpAny_bind (wpAny_attempt ?_)
    refine wpAny_mono (own_len (Q := fun v s2 => ∃ t, v = .int (m : Int) t ∧ Inv X ((it, GNX.itObj l 0) :: pins) σ H s2) (E' := fun _ _ => False) (Sub.in1 sb) cl.at_ cl.ty cl.fn cl.bi IP hp hm hsp fun t s2 h => ⟨t, rfl, h⟩) (fun v s2 hv => ?_) (fun e s2 he => he.elim)
    obtain ⟨t, rfl, I2⟩ := hv
    refine wpAny_bind (m := asInt? (.int (m : Int) t)) (wpAny_pure ?_)
    refine PySem.W.KFB.if_not (notLongL (by rw [Int.toNat_natCast]; exact hm)) ?_
    have eo2 := (I2.pin (it, GNX.itObj l 0) (List.mem_append_right _ List.mem_cons_self)).1
    exact wpAny_pure ⟨I2.pins_of fun r hr => I2.pin r (List.mem_append_right _ (List.mem_cons_of_mem _ hr)), _, eo2, rfl, rfl⟩
  refine wpAny_bind (wpAny_holding (wpAny_mono hint (fun room s2 hr => ?_) fun _ _ z => z))
  obtain ⟨I2, st2⟩ := hr
  have hupd : upd H q (.lst (zs.take 0)) = H := by
    funext b
    by_cases hb : b = q
    · rw [hb, upd_same, hq]; rfl
    · rw [upd_ne hb]
  obtain ⟨z, its, k3, r3, hl3, e3⟩ := I2.lstM hq
  cases r3
  refine wpAny_ite_split (fun _ => ?_) (fun _ => wpAny_pure ⟨plainId_quiet PySem.F.plain_extend_loop _, ext_loop hh nql hl hsz hq hdone zs.length 0 s2 rfl (by rw [hupd]; exact I2) st2 fp⟩)
  refine wpAny_bind (wpAny_rule ?_)
  refine wpAny_bind ?_
  show wpAny _ _ (updateSeq q (·.push .none) >>= fun _ => updateSeq q (·.pop)) _ _ _
  refine wpAny_bind (wpAny_updateSeq e3 rfl ?_)
  have I4 := I2.lset (f := (·.push Value.none)) (its' := [Value.none]) (ys := [.non]) (t' := s2.toks) hq e3 (by simp) (.cons rfl .nil) (by rw [List.length_singleton, sizeLine_eq]; decide)
  obtain ⟨z4, its4, k4, r4, hl4, e4⟩ := I4.lstM upd_same
  obtain ⟨u4, rfl, ru4⟩ := r4.one
  refine wpAny_updateSeq e4 rfl ?_ (by show 1 ≤ sizeLine; rw [sizeLine_eq]; decide) (by show 0 ≤ sizeLine + 1; exact Nat.zero_le _)
  have I5 := I4.lset (f := (·.pop)) (its := [u4]) (its' := []) (ys := []) (t' := s2.toks) upd_same e4 (by rfl) .nil (Nat.zero_le _)
  rw [upd_upd] at I5
  refine wpAny_pure ⟨plainId_quiet PySem.F.plain_extend_loop _, ext_loop hh nql hl hsz hq hdone zs.length 0 _ rfl I5 ?_ fp⟩
  exact (st2.at fun o e => (Heap.get?_update_other _ _ (Ne.symm niq)).trans e).at fun o e => (Heap.get?_update_other _ _ (Ne.symm niq)).trans e
/-- list(o): a new list of what the list in the field holds -/
theorem call_listOwnL {sp : Sp} (ci : ItrC X C fi fdI fld k) (cl : LenC X C fl fdL sp k) (hc : X.calm = true) (hr : Room (k + 3) X.A) :
    CallR X (.type "list") (fun xs H Q => ∃ (p dx l : Addr) (fs : List (Str × V)) (zs : List V) (m : Nat), xs = [.ref p] ∧ H p = some (.ins C dx fs) ∧ fs.lookup fld = some (.ref l) ∧ H l = some (.lst zs) ∧ zs.length ≤ 1000 ∧ m ≤ sizeLine ∧
      (∀ H', Same H H' → sp [.ref p] H' (fun v H'' => v = .int (m : Int) ∧ H'' = H') E0) ∧ ∀ q, H q = none → Q (.ref q) (upd H q (.lst zs))) := by
  intro pins s σ H xs us Q I rv h
  obtain ⟨p, dx, l, fs, zs, m, rfl, hp, hf, hl, hz, hm, hsp, hq⟩ := h
  obtain ⟨u, rfl, ru⟩ := rv.one
  cases ru
  have sb : Sub X (k + 1) X.A.in1.in1 := (Sub.in1 (Sub.in1 (⟨hr, rfl⟩ : Sub X (k + 3) X.A)))
  refine callType_codes (Q₁ := fun obj s₁ => obj = .ref s.heap.objs.size ∧ s₁ = { s with heap := s.heap.push { cls := .type "list", data := .seq #[] } }) PySem.F.called_list (PySem.F.typeCall_list_1 _) PySem.F.entry_list_init
    (code_list_new _ ⟨rfl, rfl⟩) fun obj s₁ h₁ => ?_
  obtain ⟨rfl, rfl⟩ := h₁
  have hS : (s.heap.push { cls := .type "list", data := .seq #[] }).get? s.heap.objs.size = some { cls := .type "list", data := .seq #[] } := Heap.get?_push_size _ rfl
  refine ⟨⟨_, hS, rfl⟩, PySem.F.args_list_init_2 _ _, ?_⟩
  have fr : H s.heap.objs.size = none := I.hok.fresh (Nat.le_refl _)
  have hq' := hq _ fr
  have I1 : Inv X pins σ (upd H s.heap.objs.size (.lst [])) { s with heap := s.heap.push { cls := .type "list", data := .seq #[] } } := I.lnew (its := []) (t' := s.toks) .nil (Nat.zero_le _)
  show wpAny _ _ (do let old ← Builtin.List.listItems (.ref s.heap.objs.size); Builtin.List.listUpdate (.ref s.heap.objs.size) (fun _ => #[]); letGo old.toList.reverse; Builtin.List.listExtendWith (.ref s.heap.objs.size) (.ref p) .none) _ _ _
  refine wpAny_bind ?_
  unfold Builtin.List.listItems
  refine wpAny_bind (wpAny_seqItems hS rfl (wpAny_pure ?_))
  show wpAny _ _ (updateSeq s.heap.objs.size (fun _ => #[]) >>= fun _ => letGo (#[] : Array Value).toList.reverse >>= fun _ => Builtin.List.listExtendWith (.ref s.heap.objs.size) (.ref p) .none) _ _ _
  refine wpAny_bind (wpAny_updateSeq hS rfl ?_)
  have I2 := I1.lset (f := fun _ => #[]) (its := []) (its' := []) (ys := []) (t' := s.toks) upd_same hS rfl .nil (Nat.zero_le _)
  rw [upd_upd] at I2
  refine wpAny_bind (wpAny_letGo ?_)
  have sH : Same H (upd H s.heap.objs.size (.lst [])) := fun b x e => by rw [upd_ne (ne_of_none e fr)]; exact e
  have nql : l ≠ s.heap.objs.size := ne_of_none hl fr
  refine own_extendL (A1 := X.A.in1) (Rs := wants (fun r s₂ => r = .none ∧ EP X pins σ Q (.ref s.heap.objs.size) s₂) X.xe) sb (I.ok.hd hc) ci cl I2 (sH _ _ hp) hf (sH _ _ hl) (Nat.lt_of_le_of_lt hz (by decide)) hm (hsp _ sH) upd_same nql
    (fun s' I' => ⟨rfl, .ref s.heap.objs.size, _, I', rfl, by rw [upd_upd]; exact hq'⟩) (fun e s' he => he)
end
end RO

set_option maxRecDepth 100000
set_option maxHeartbeats 2000000
namespace R6
open PySem PySem.Spec PyProof.Rows L2
/-! ### an own class made inside a try: __init__ may raise -/
section
variable {X : Cx} {CX : CXT} {k : Nat} {f C : Addr} {fd : FuncData} {ps : List Str} {ds : List Value} {dvs : List V} {sp : Sp} {E : L2.St → XK} {x : Str} {p pos : Pos} {e : Expr} {es : List Expr} {t : TA}
theorem run_makeS {pins : List (Addr × Obj)} {σ : L2.St} {H : Hp} {s : Shared} {Q : VK} {us : List Value} {vs : List V} (M : Mk X.K C f) (F : FnOk X.prog X.w X.K X.mg X.base CX k f fd ps sp) (hr : Room (k + 1) X.A) (hb : Binds X.K fd ps ds) (hd : Vals dvs ds)
    (hx : PassesAt CX X σ (E σ)) (I : Inv X pins σ H s) (r : Vals vs us)
    (h : ∀ x dx, H x = none → H dx = none → dx ≠ x → sp (.ref x :: (vs ++ dvs)) (upd (upd H dx (.own x)) x (.ins C dx [])) (fun v H2 => v = .non ∧ Q (.ref x) H2) (E σ)) :
    wpAny (model X.prog X.w) X.A (call (.ref C) us) (EP X pins σ Q) X.xe s := by
  have hq := h (s.heap.objs.size + 1) s.heap.objs.size (I.hok.fresh (Nat.le_succ _)) (I.hok.fresh (Nat.le_refl _)) (Nat.ne_of_lt (Nat.lt_succ_self _))
  have I2 := Inv.made (C := C) I
  have r2 : Vals (V.ref (s.heap.objs.size + 1) :: (vs ++ dvs)) (Value.ref (s.heap.objs.size + 1) :: (us ++ ds)) := .cons rfl (r.append hd)
  have hl : (Value.ref (s.heap.objs.size + 1) :: us ++ ds).length = ps.length := by
    have e := r2.length
    rw [F.len _ _ _ _ hq] at e
    exact e.symm
  refine wpAny_call (make_map (f := f) I.kIn M.makes M.init (beq_iff_eq.mp M.fn) (codeAny_mono (F.run _ X.stack _ _ ⟨Value.ref (s.heap.objs.size + 1) :: us, []⟩ (Value.ref (s.heap.objs.size + 1) :: (us ++ ds)) _ _ (E σ) (hr.make C us [])
    (I2.env0.make C us []) (hb _ (Value.ref (s.heap.objs.size + 1) :: us) I2.kIn hl) r2 hq) fun r s' hq' => ?_))
  cases r with
  | error e => exact hx pins _ _ e s' I2 hq'
  | ok fl =>
    cases fl with
    | ret u =>
      obtain ⟨v, H', I3, rv, ev, q3⟩ := I2.after hq'
      subst ev
      exact ⟨rv, ⟨V.ref (s.heap.objs.size + 1), H', I3, rfl, q3⟩⟩
    | next => exact False.elim hq'
    | brk => exact False.elim hq'
    | cont => exact False.elim hq'
def tMakeS (C : Addr) (sp : Sp) (dvs : List V) (E : L2.St → XK) (t : TA) : TE := fun σ H Q => t σ H fun vs H1 => ∀ x dx, H1 x = none → H1 dx = none → dx ≠ x → sp (.ref x :: (vs ++ dvs)) (upd (upd H1 dx (.own x)) x (.ins C dx [])) (fun v H2 => v = .non ∧ Q (.ref x) H2) (E σ)
theorem pe_makeS (M : Mk X.K C f) (F : FnOk X.prog X.w X.K X.mg X.base CX k f fd ps sp) (hr : Room (k + 1) X.A) (hg : Gl X x) (hm : X.mg x = some (.ref C)) (hb : Binds X.K fd ps ds) (hd : Vals dvs ds) (hx : ∀ σ, PassesAt CX X σ (E σ))
    (ha : PA X (e :: es) t) (hdb : (x == ("__debug__" : Str)) = false := by decide) (he : starEach (e :: es) X.env = (false, eval e X.env) :: starEach es X.env := by rfl) (hpl : (backTo pos (starEach es X.env)).any (·.1) = false := by rfl) :
    PE X (.Call (.Name x p) (e :: es) [] pos) (tMakeS C sp dvs E t) := by
  refine ⟨fun pins s σ H Q I h => ?_⟩
  refine wpAny_Call_Name_kw (ld_glob I hg hm ?_ hdb)
  refine PySem.W.callWith_K (h₀ := X.base) I.ok.mod.kin M.kp (thn (ha.run pos pins s σ H _ I h) fun us s1 ⟨vs, H1, I1, r, q⟩ => ⟨I1.kIn, ?_⟩) he hpl
  exact run_makeS M F hr hb hd (hx σ) I1 r q
end
end R6

set_option maxRecDepth 100000
set_option maxHeartbeats 4000000
/-! several except clauses, each with the same name behind as -/
namespace RT
open PySem PySem.Spec PyProof.Rows L2
/-- what is wanted behind a suite whose name at i is let go -/
def offD (D : Ends) (i : Nat) : Ends := { nx := fun σ H => D.nx (σ.set i none) H, rt := D.rt, bk := fun σ H => D.bk (σ.set i none) H, ct := fun σ H => D.ct (σ.set i none) H }
abbrev Cl : Type := Value × (Addr → Value → Option Addr → TS)
def wAsM (K : PySem.W.Frag) (i : Nat) (W0 : WX) (D : Ends) : List Cl → WX
  | [] => W0
  | k :: r => fun cls d σ H => ∃ b, PySem.W.exmOne K cls k.1 = some b ∧ (b = true → ∀ a, H a = none → k.2 a cls d (offD D i) (σ.set i (some (.ref a))) H) ∧ (b = false → wAsM K i W0 D r cls d σ H)
inductive AsOk (X : Cx) (n : Str) : List ExceptHandler → List Cl → Prop
  | nil : AsOk X n [] []
  | cons {x : Str} {c : Value} {ts : Addr → Value → Option Addr → TS} {b0 : Stmt} {su : List Stmt} {np p' : Pos} {hs : List ExceptHandler} {l : List Cl} (hc : Names X x c)
      (hsu : ∀ (a : Addr) (oe : Obj) (cls : Value) (d : Option Addr) (pn : List (Addr × Obj)), Zc cls d oe → (∃ vs, oe.data = .fields vs) → PSs (X.suite a ((a, oe) :: pn)) (b0 :: su) (ts a cls d))
      (r : AsOk X n hs l) : AsOk X n (.ExceptHandler (some (.Name x np)) (some n) (b0 :: su) p' :: hs) ((c, ts) :: l)
section
variable {X : Cx} {n : Str} {i : Nat} {body : List Stmt} {h0 : ExceptHandler} {hds : List ExceptHandler} {l : List Cl} {pos : Pos} {tb : WX → TS} {W0 : WX}
/-- caught, on the ground -/
structure Got (X : Cx) (pins : List (Addr × Obj)) (σ : L2.St) (H : Hp) (a : Addr) (B : Heap) (sI s3 : Shared) (cls : Value) (d : Option Addr) : Prop where
  inv : Inv X pins σ H sI
  nb : ∀ b o, sI.heap.get? b = some o → b ∉ frs X.stack → B.get? b = some o
  up : sI.heap.UpToSlots s3.heap
  fl : HandSPX.FlyingZ B (X.env :: X.outer) a (Zc cls d) s3.heap
  na : H a = none
  os : s3.os = sI.os
  ag : AllBare s3.gens
theorem Got.notFrame {pins : List (Addr × Obj)} {σ : L2.St} {H : Hp} {a : Addr} {B : Heap} {sI s3 : Shared} {cls : Value} {d : Option Addr} (g : Got X pins σ H a B sI s3 cls d) (hf : X.env.frame = some X.env.locals) : a ≠ X.env.locals ∧ a ∉ X.fs := by
  obtain ⟨oe, vs, e1, _, e3⟩ := g.fl.there
  have nfr : a ∉ frs (X.env :: X.outer) := fun hm => by
    obtain ⟨_, o, e, hnf⟩ := g.fl.2.2.1.mem hm
    rw [e1] at e; cases e; exact hnf _ e3
  refine ⟨fun z => nfr (List.mem_filterMap.mpr ⟨_, List.mem_cons_self, hf.trans (congrArg some z.symm)⟩), fun hm => ?_⟩
  obtain ⟨e, y1, y2⟩ := List.mem_filterMap.mp hm
  exact nfr (List.mem_filterMap.mpr ⟨e, List.mem_cons_of_mem _ y1, y2⟩)
theorem clauses (hs : X.stack = X.env :: X.outer) (hf : X.env.frame = some X.env.locals) (hN : X.N.Nodup) (hi : X.N[i]? = some n) (hln : X.env.kindOf n = some .local) (tk : Takes X W0) {D : Ends}
    {pins : List (Addr × Obj)} {σ : L2.St} {H : Hp} {a : Addr} {B : Heap} {sI s3 : Shared} {cls : Value} {d : Option Addr} (ok : X.Ok) (g : Got X pins σ H a B sI s3 cls d) :
    ∀ {hl : List ExceptHandler} {cl : List Cl}, AsOk X n hl cl → wAsM X.K i W0 D cl cls d σ H → wpAny (model X.prog X.w) X.A (handleBy (.ref a) X.env hl) (SP X pins D) X.xe s3 := by
  intro hl cl hk
  obtain ⟨nL, nF⟩ := g.notFrame hf
  have I3 : Inv X pins σ H s3 := g.inv.landed g.nb g.fl.1 g.up g.os g.ag
  obtain ⟨o3, v3, x3, z3, d3⟩ := g.fl.there
  have S3 := I3.suite x3 d3 g.na nL nF
  induction hk with
  | nil =>
    intro wv
    refine wpAny_handleBy_nil ?_
    obtain ⟨_, _, _, oe, vs, T, _, _, y1, _, y3, y4, _⟩ := id g.fl
    unfold PySem.passOn
    refine wpAny_bind (wpAny_field y1 y3 y4 ?_)
    rw [if_neg (show ¬ ((Value.ref T == Value.none) = true) by simp), hf]
    refine wpAny_bind (HandSPX.setFlight_upZ g.fl fun h4 hh up => wpAny_throw (tk _ _ ?_))
    exact ⟨a, B, sI, pins, σ, H, cls, d, rfl, g.inv, g.nb, g.up.trans up, .inr (.inr (by rw [hs]; exact hh)), g.na, g.os, g.ag, wv⟩
  | @cons x c ts b0 su np p' hs2 l2 hc hsu r ih =>
    rintro ⟨b, hb, yes, no⟩
    refine wpAny_handleBy_cons (codeAny_handlers_test ?_) (by intro q; cases q)
    have tyE : PySem.W.Looks (model X.prog X.w) s3.heap (typeOf (.ref a)) cls := fun _ _ _ _ k q => wpAny_typeOf_ref (k _ _ x3) (by rw [z3.1]; exact q)
    have exm := PySem.W.exm_one (M := model X.prog X.w) I3.kIn tyE hb
    have nm : ∀ {Q : Value → Shared → Prop} {E : Value → Shared → Prop}, Q c s3 → wpAny (model X.prog X.w) (X.A.mark (some (.ref a))) (eval (.Name x np) X.env) Q E s3 := fun q => by
      obtain ⟨w1, w2, w3 | ⟨w3, w4, w5⟩⟩ := hc
      · exact ld_glob (X := X.suite a ((a, o3) :: (X.pn ++ pins))) S3 w1 w3 q w2
      · exact ld_blt (X := X.suite a ((a, o3) :: (X.pn ++ pins))) S3 w1 w3 w4 q w5 w2
    refine nm (exm.here ?_)
    cases b with
    | false => exact ih (no rfl)
    | true =>
      refine codeAny_handlers_suite_as (HandSPX.lands_againZ g.fl fun h4 fl4 up4 => ?_)
      have I4 : Inv X pins σ H { s3 with heap := h4 } := g.inv.landed g.nb fl4.1 (g.up.trans up4) g.os g.ag
      obtain ⟨o4, v4, x4, z4, d4⟩ := fl4.there
      refine store_ok (X := X.suite a ((a, o4) :: (X.pn ++ pins))) (v := .ref a) (I4.suite x4 d4 g.na nL nF) hN hi (.inl hln) rfl (fun s5 S5 => ?_) (.inr hln)
      refine wpAny_mono ((hsu a o4 cls d (X.pn ++ pins) z4 ⟨_, d4⟩).run [] s5 _ H _ S5 (yes rfl a g.na)) (fun fl s6 sp => ?_) (fun _ _ z => z.elim)
      have off : ∀ {σ' : L2.St} {H' : Hp} {Q : Shared → Prop}, Inv (X.suite a ((a, o4) :: (X.pn ++ pins))) [] σ' H' s6 → (∀ s7, Inv X pins (σ'.set i none) H' s7 → Q s7) →
          wpAny (model X.prog X.w) X.A (do bindName X.env n .none; unbindBehindTheSuite X.env n p') (fun _ s7 => Q s7) X.xe s6 := fun y q => gone_ok (y.unsuite ok) hN hi hln q
      cases fl with
      | next => obtain ⟨_, _, y, q⟩ := sp; exact off y fun _ j => ⟨_, _, j, q⟩
      | brk => obtain ⟨_, _, y, q⟩ := sp; exact off y fun _ j => ⟨_, _, j, q⟩
      | cont => obtain ⟨_, _, y, q⟩ := sp; exact off y fun _ j => ⟨_, _, j, q⟩
      | ret u => obtain ⟨_, _, _, y, rr, q⟩ := sp; exact off y fun _ j => ⟨_, _, _, j, rr, q⟩
theorem ps_try_asM (hs : X.stack = X.env :: X.outer) (hf : X.env.frame = some X.env.locals) (hN : X.N.Nodup) (hi : X.N[i]? = some n) (hln : X.env.kindOf n = some .local) (tk : Takes X W0)
    (hb : ∀ (W : WX) (pn : List (Addr × Obj)) (xe : Value → Shared → Prop), Takes (X.tr pn xe) W → PassesOwn (model X.prog X.w) X.A X.env xe → PSs (X.tr pn xe) body (tb W)) (hh : AsOk X n (h0 :: hds) l) :
    PS X (.Try body (h0 :: hds) [] [] pos) (fun D σ H => tb (wAsM X.K i W0 D l) D σ H) := by
  refine ⟨fun pins s σ H D I h => ?_⟩
  have ok := I.ok
  refine wpAny_Try_except ?_
  have run := (hb (wAsM X.K i W0 D l) (X.pn ++ pins) (fun e s1 => wpAny (model X.prog X.w) X.A (noteFrame e X.env) (fun _ s2 => wpAny (model X.prog X.w) X.A (setFlight e none) (fun _ s3 => wpAny (model X.prog X.w) X.A (handleBy e X.env (h0 :: hds)) (SP X pins D) X.xe s3) X.xe s2) X.xe s1)
    (fun u s' xx => by
      obtain ⟨a, B, sI, pins', σ', H', cls, d, rfl, J, nb, up, sky, na, os, ag, wv⟩ := xx
      have sky' : Sky B (X.env :: X.outer) a (Zc cls d) X.env.locals s'.heap := by rw [← hs]; exact sky
      show wpAny (model X.prog X.w) X.A (noteFrame (.ref a) X.env) _ _ _
      refine Sky.land Zc.steady (ok.frames.trans (congrArg some hs)) hf sky' fun h3 fl3 up3 => ?_
      exact clauses hs hf hN hi hln tk ok (s3 := { s' with heap := h3 }) ⟨J.ofTry ok, nb, up.trans up3, fl3, na, os, ag⟩ hh wv) PassesOwn.looking).run [] s σ H D (I.toTry _) h
  refine wpAny_mono run (fun f s1 sp => ?_) (fun _ _ z => z)
  cases f with
  | next => obtain ⟨_, _, y, q⟩ := sp; exact wpAny_execs_nil ⟨_, _, y.ofTry ok, q⟩
  | brk => obtain ⟨_, _, y, q⟩ := sp; exact ⟨_, _, y.ofTry ok, q⟩
  | cont => obtain ⟨_, _, y, q⟩ := sp; exact ⟨_, _, y.ofTry ok, q⟩
  | ret u => obtain ⟨_, _, _, y, rr, q⟩ := sp; exact ⟨_, _, _, y.ofTry ok, rr, q⟩
end
end RT

set_option maxRecDepth 100000
set_option maxHeartbeats 4000000
/-! own `in`; an own instance called with keywords -/
namespace RI
open PySem PySem.Spec PyProof.Rows L2 PySem.W
section
variable {M : Model} {A : Around} {E : Value → Shared → Prop} {s : Shared} {K : Frag} {a C f : Addr} {ox : Obj} {od : Option Obj}
theorem contains_own {v : Value} {Q : Bool → Shared → Prop} (X : K.In s.heap) (I : InstAt s.heap a ox C od) (hs : findIn K (.ref C) "__contains__" = some (some (.ref f))) (hf : typeIn K (.ref f) = some (.type "function"))
    (h : wpAny M A (call (.ref f) [.ref a, v]) (fun r s' => wpAny M A (truthy r) Q E s') E s) : wpAny M A (contains (.ref a) v) Q E s := by
  unfold contains
  refine wpAny_holding ?_
  rw [show stdlibNamesSay? (.ref a) v = none from rfl]
  have look : Looks M s.heap (specialOf (.ref a) "__contains__") (some (.ref f)) := I.type.andThen (looks_findIn X hs)
  refine wpAny_bind (look.here ?_)
  show wpAny M A (if (some (Value.ref f) == some Value.none) = true then _ else _) Q E s
  rw [if_neg (by simp)]
  refine wpAny_bind ?_
  unfold callSpecialUnlessNone?
  refine wpAny_bind (look.here (wpAny_holding (wpAny_bind ((bind_fn X (.ref a) hf).here ?_))))
  show wpAny M A (if ((Value.ref f) == Value.none) = true then _ else _) _ E s
  rw [if_neg (by simp)]
  refine wpAny_bind ?_
  exact wpAny_mono h (fun r s' z => wpAny_pure z) fun _ _ z => z
end
section
variable {X : Cx} {C f : Addr} {k : Nat} {CX : CXT} {fd : FuncData} {ps : List Str} {sp : Sp} {E : XK}
/-- v in o, o of an own class whose own __contains__ says a bool -/
def rInOwn (C : Addr) (sp : Sp) (E : XK) : R2 := fun x y H Q => ∃ a dx fs, y = .ref a ∧ H a = some (.ins C dx fs) ∧ sp [.ref a, x] H (fun v H' => ∃ r, v = .bl r ∧ Q (.bl r) H') E
theorem op_inOwn (F : FnOk X.prog X.w X.K X.mg X.base CX k f fd ps sp) (hs : findIn X.K (.ref C) "__contains__" = some (some (.ref f))) (hf : typeIn X.K (.ref f) = some (.type "function")) (hb : Binds X.K fd ps []) (hr : Room k X.A) (hx : Passes CX X E) :
    OpR X (compareOp .In) (rInOwn C sp E) := by
  intro pins s σ H x y v u Q I rx ry h
  obtain ⟨a, dx, fs, rfl, ha, hsp⟩ := h
  cases (show u = Value.ref a from ry)
  obtain ⟨mA, J, _⟩ := ins_get I.hok ha
  obtain ⟨od, J, _⟩ := J.look
  have hl := F.len _ _ _ _ hsp
  have r2 : Vals [V.ref a, x] [Value.ref a, v] := .cons rfl (.cons rx .nil)
  show wpAny (model X.prog X.w) X.A (do return .bool (← contains (.ref a) v)) (EP X pins σ Q) X.xe s
  refine wpAny_bind (contains_own I.kIn J hs hf (wpAny_call (codeAny_mono (F.run X.A X.stack s H ⟨[.ref a, v], []⟩ [.ref a, v] [.ref a, x] _ E hr I.env0 (by
    have := hb s [.ref a, v] I.kIn (by simpa using hl)
    simpa using this) r2 hsp) fun r s' hq => ?_)))
  cases r with
  | error e => exact hx pins σ H s e s' I hq
  | ok fl =>
    cases fl with
    | ret w =>
      obtain ⟨z, H', I', rz, r, ez, q⟩ := I.after hq
      subst ez
      cases rz
      exact wpAny_pure (wpAny_pure ⟨.bl r, H', I', rfl, q⟩)
    | next => exact False.elim hq
    | brk => exact False.elim hq
    | cont => exact False.elim hq
/-- o(e, .., k = v, ..) -/
def tCallON (X : Cx) (C : Addr) (n m : Nat) (sp : Sp) (gV : List V → List V → List V) (E : XK) (tf : TE) (t tk : TA) : TE := fun σ H Q => tf σ H fun y H1 => ∃ a, y = V.ref a ∧ t σ H1 fun vs H2 => tk σ H2 fun zs H3 =>
  vs.length = n ∧ zs.length = m ∧ (∃ dx fs, H3 a = some (.ins C dx fs)) ∧ sp (gV (V.ref a :: vs) zs) H3 Q E
theorem pe_callON {n : Nat} {ks : List Str} {fe e : Expr} {es : List Expr} {kws : List Keyword} {pos : Pos} {tf : TE} {t tk : TA} {g : List Value → List Value → List Value} {gV : List V → List V → List V} (hf : PE X fe tf) (c : StX.CallO X.K C f)
    (F : FnOk X.prog X.w X.K X.mg X.base CX k f fd ps sp) (hr : Room k X.A) (hb : KBn X.K fd ps (n + 1) ks g gV) (hx : Passes CX X E) (ha : PA X (e :: es) t) (hkw : PK X kws tk)
    (hall : (backToKw pos (keywordEach kws X.env)).all (·.1.isSome) = true := by rfl) (hks : (backToKw pos (keywordEach kws X.env)).filterMap (·.1) = ks := by rfl)
    (ht : eval (.Call fe (e :: es) kws pos) X.env = (do callWith pos (← eval fe X.env) [] (backTo pos (starEach (e :: es) X.env)) (backToKw pos (keywordEach kws X.env))) := by rfl)
    (he : starEach (e :: es) X.env = (false, eval e X.env) :: starEach es X.env := by rfl)
    (hpl : ((backTo pos (starEach (e :: es) X.env)).any (·.1) || (backToKw pos (keywordEach kws X.env)).any (·.1.isNone)) = false := by rfl) :
    PE X (.Call fe (e :: es) kws pos) (tCallON X C n ks.length sp gV E tf t tk) := by
  refine ⟨fun pins s σ H Q I h => ?_⟩
  rw [ht]
  refine wpAny_bind (thn (hf.run pins s σ H _ I h) fun u s1 hu => ?_)
  obtain ⟨y, H1, I1, ry, a, rfl, q⟩ := hu
  obtain rfl : u = Value.ref a := ry
  unfold callWith
  refine wpAny_bind (wpAny_holding ?_)
  refine evalArgs_kw2 hall (thn (ha.run pos pins s1 σ H1 _ I1 q) fun us s2 h2 => ?_) he
  obtain ⟨vs, H2, I2, r, q2⟩ := h2
  refine thn (hkw.run pos pins s2 σ H2 _ I2 q2) fun ws s3 h3 => ?_
  obtain ⟨zs, H3, I3, rz, l1, l2, ⟨dx, fs, ha3⟩, hsp⟩ := h3
  refine wpAny_bind (wpAny_standAt ?_)
  obtain ⟨mA, O, _⟩ := ins_get I3.hok ha3
  obtain ⟨od, J, _⟩ := O.look
  have keep := kco_keeper (M := model X.prog X.w) J rfl
  simp only [hpl]
  refine wpAny_bind (keep.here ?_)
  have r1 : Vals (V.ref a :: vs) (Value.ref a :: us) := .cons rfl r
  have run : wpAny (model X.prog X.w) X.A (call (.ref a) us (ks.zip ws)) (EP X pins σ Q) X.xe s3 := by
    refine wpAny_call (kco_code I3.kIn J rfl c.at_ c.fn c.fi ?_)
    refine codeAny_mono (F.run X.A X.stack s3 H3 ⟨.ref a :: us, ks.zip ws⟩ (g (.ref a :: us) ws) _ Q E hr I3.env0 (hb.to _ _ ws I3.kIn (by rw [← r1.length, List.length_cons, l1]) (by rw [← rz.length, l2])) (hb.rel r1 rz) hsp) fun r s' hq => ?_
    cases r with
    | error e => exact hx pins σ H3 s3 e s' I3 hq
    | ok fl =>
      cases fl with
      | ret u => exact I3.after hq
      | next => exact False.elim hq
      | brk => exact False.elim hq
      | cont => exact False.elim hq
  rw [hks]
  have go : ∀ {t : Sem Value}, wpAny (model X.prog X.w) X.A t (EP X pins σ Q) X.xe s3 → wpAny (model X.prog X.w) X.A (t >>= fun r => holding [r] point >>= fun _ => pure r) (EP X pins σ Q) X.xe s3 :=
    fun hh => wpAny_bind (wpAny_mono hh (fun _ _ hz => wpAny_bind (wpAny_holding (wpAny_point (wpAny_pure hz)))) fun _ _ z => z)
  exact go (wpAny_operateT run)
end
end RI

set_option maxRecDepth 100000
set_option maxHeartbeats 2000000
/-! list(o) where o's own __iter__ returns iter(d) of a dict in a field -/
namespace RK
open PySem PySem.Spec PyProof.Rows L2 ItX RO
abbrev kitObj (d : Addr) (n ep : Nat) : Obj := { cls := .type "dict_keyiterator", data := .fields #[.ref d, .int (0 : Nat) 0, .int n 0, .int ep 0] }
def KitO (d it n ep : Nat) : HO := .ext fun h => h.get? it = some (kitObj d n ep)
theorem kitO_ok {P : Program} {w : World} {H : Hp} {h : Heap} {d it n ep : Nat} (e : h.get? it = some (kitObj d n ep)) : ObjOk P w H h it (KitO d it n ep) := ⟨e, ⟨_, e⟩, fun h1 h2 q k => k _ q⟩
section
variable {X : Cx}
/-- iter(d) of a locked dict -/
theorem call_iterK : CallR X (.builtin "iter") (fun xs H Q => ∃ (d : Addr) (o : Obj) (kvs : List (Key × V)), xs = [.ref d] ∧ H d = some (.frz o (.dK kvs)) ∧
    ∀ it es ep, o.data = .dict es ep → H it = Option.none → X.s_0.heap.objs.size ≤ it → Q (.ref it) (upd H it (KitO d it kvs.length ep))) := by
  intro pins s σ H xs us Q I r h
  obtain ⟨d, o, kvs, rfl, hd, q⟩ := h
  obtain ⟨u, rfl, ru⟩ := vals1 r
  cases ru
  obtain ⟨hs, hgd, hx, es, ep, vs, hdt, hsz, kv, hm⟩ := I.frzK hd
  refine Calls.call_function_entry (by decide +kernel) (by decide +kernel) PySem.W.kdk_entry_iter (PySem.W.kdk_args_iter _) ?_
  unfold Builtin.«iter»
  refine wpAny_bind (m := someArgs "iter" 1 2 _) (wpAny_of_eq (a := [Value.ref d]) (by first | rfl | kernel_rfl!) ?_)
  show wpAny _ _ (pyIter (.ref d) >>= _) _ _ _
  refine wpAny_bind (iter_keys hs hgd hx hdt ?_)
  refine wpAny_pure ⟨_, rfl, ?_⟩
  have q' := q s.heap.objs.size es ep hdt (I.hok.fresh (Nat.le_refl _)) I.sz
  rw [hsz]
  exact ⟨.ref s.heap.objs.size, _, I.laid (t' := s.toks) (fun b u e => Heap.get?_push_of_some _ e) (Nat.le_refl _) (kitO_ok (Heap.get?_push_size _ rfl)), rfl, q'⟩
end
/-- __iter__ hands back a new iterator over the locked dict in a field -/
def spItK (C : Addr) (fld : Str) (n : Nat) : Sp := fun vs H Q _ => ∃ (p dx d : Addr) (fs : List (Str × V)) (o : Obj) (kvs : List (Key × V)), vs = [.ref p] ∧ H p = some (.ins C dx fs) ∧ fs.lookup fld = some (.ref d) ∧ H d = some (.frz o (.dK kvs)) ∧
  ∀ it es ep, o.data = .dict es ep → H it = none → n ≤ it → Q (.ref it) (upd H it (KitO d it kvs.length ep))
structure ItrK (X : Cx) (C fi : Addr) (fdI : FuncData) (fld : Str) (k : Nat) : Prop where
  it : PySem.W.findIn X.K (.ref C) "__iter__" = some (some (.ref fi))
  itF : PySem.W.isFn X.K (.ref fi) = true
  fn : FnN X.prog X.w X.K X.mg X.base CX0 k fi fdI ["self"] (spItK C fld)
  bi : Binds X.K fdI ["self"] []
section
variable {X : Cx} {pins : List (Addr × Obj)} {σ : L2.St} {H : Hp} {s : Shared} {A1 : Around} {C fi fl p dx d : Addr} {fdI fdL : FuncData} {fld : Str} {k : Nat} {fs : List (Str × V)} {o : Obj} {kvs : List (Key × V)}
/-- iter(o) -/
theorem own_iterK {Q : Value → Shared → Prop} (sb : Sub X k A1) (c : ItrK X C fi fdI fld k) (I : Inv X pins σ H s) (hp : H p = some (.ins C dx fs)) (hf : fs.lookup fld = some (.ref d)) (hd : H d = some (.frz o (.dK kvs)))
    (h : ∀ it es ep s', o.data = .dict es ep → H it = none → s.heap.objs.size ≤ it → s'.heap.get? it = some (kitObj d kvs.length ep) → Inv X pins σ H s' → Q (.ref it) s') : wpAny (model X.prog X.w) A1 (pyIter (.ref p)) Q X.xe s := by
  obtain ⟨mA, J, _⟩ := ins_get I.hok hp
  obtain ⟨od, J, _⟩ := J.look
  obtain ⟨m0, hF⟩ := I.fr
  refine PySem.W.owit_iter hF I.ok.mod.kin J c.it c.itF ?_
  have hsp : spItK C fld s.heap.objs.size [.ref p] H (fun v H' => ∃ it es ep, v = .ref it ∧ o.data = .dict es ep ∧ H it = none ∧ s.heap.objs.size ≤ it ∧ H' = upd H it (KitO d it kvs.length ep)) E0 := ⟨p, dx, d, fs, o, kvs, rfl, hp, hf, hd, fun it es ep h0 h1 h2 => ⟨it, es, ep, rfl, h0, h1, h2, rfl⟩⟩
  have r2 : Vals [V.ref p] [Value.ref p] := .cons rfl .nil
  refine wpAny_call (codeAny_mono (c.fn.run A1 X.stack s H ⟨[.ref p], []⟩ [.ref p] [.ref p] _ E0 sb.room (env_sub I sb) (by
    have := c.bi s [.ref p] I.kIn rfl
    simpa using this) r2 hsp) fun r s' hq => ?_)
  cases r with
  | error e => exact absurd hq (fun z => z.elim)
  | ok fl =>
    cases fl with
    | next => exact False.elim hq
    | brk => exact False.elim hq
    | cont => exact False.elim hq
    | ret u =>
      obtain ⟨v, H', I', rv, it, es, ep, rfl, hdt, hn, hsz, rfl⟩ := I.after hq
      cases rv
      have eo : s'.heap.get? it = some (kitObj d kvs.length ep) := (I'.hok it _ upd_same).1
      have I2 := inv_drop I' (show upd H it (KitO d it kvs.length ep) it = some (.ext _) from upd_same)
      rw [dropH_upd hn] at I2
      have hT : s'.TypeIs (.ref it) "dict_keyiterator" := ⟨_, eo, rfl⟩
      unfold PySem.W.OwitIt
      exact wpAny_specialOf (name := Str.ofString "__next__") hT PySem.F.slot_dict_keyiterator_next.lookup (h it es ep s' hdt hn hsz eo I2)
/-! ### list(o) -/
theorem ext_loopK {q it : Addr} {es : Array DictEntry} {ep : Nat} {Rs : Result → Shared → Prop} (hh : A1.in1.handled = none) (ndq : d ≠ q) (hd : H d = some (.frz o (.dK kvs))) (hdt : o.data = .dict es ep) (hsz : kvs.length < sizeLine) (hq0 : H q = some (.lst []))
    (hdone : ∀ s, Inv X pins σ (upd H q (.lst (kvs.map fun kv => kV kv.1))) s → Rs (.ok (.ret .none)) s) :
    ∀ (n i : Nat) (s : Shared), n + i = kvs.length → Inv X pins σ (upd H q (.lst ((kvs.map fun kv => kV kv.1).take i))) s → s.heap.IsKeyIter it d i kvs.length ep → FpOk X pins H it →
      codeAny (model X.prog X.w) A1 (.builtin "list.extend.loop" ⟨[.ref q, .ref it, .none], []⟩) Rs s := by
  intro n
  induction n with
  | zero =>
    intro i s hi I st fp
    refine codeAny_builtin PySem.F.entry_extend_loop ?_
    rw [Around.under_plainId PySem.F.plain_extend_loop _]
    show wpAny _ A1.in1 (pyNext (.ref it) >>= _) _ _ s
    have hd' : upd H q (.lst ((kvs.map fun kv => kV kv.1).take i)) d = some (.frz o (.dK kvs)) := by rw [upd_ne ndq]; exact hd
    obtain ⟨hs, hgd, hx, es', ep', vs, hdt', hsz', kv, hm⟩ := I.frzK hd'
    obtain ⟨rfl, rfl⟩ := dict_ep hdt hdt'
    obtain ⟨f0, f1, f2, f3, f4, f5⟩ := fp
    have niq : it ≠ q := fun e => by rw [e, hq0] at f0; cases f0
    have e1 : (kvs.map fun kv => kV kv.1).take i = kvs.map fun kv => kV kv.1 := List.take_of_length_le (by rw [List.length_map]; omega)
    refine wpAny_bind (next_key_end hh st hgd hdt hsz' (by omega) fun h' eb => ?_)
    rw [e1] at I
    have I' : Inv X pins σ (upd H q (.lst (kvs.map fun kv => kV kv.1))) { s with heap := h' } := I.turned (t' := s.toks) (fun b o hb e => eb b o hb e) (by rw [upd_ne niq]; exact f0) f1 f3 f4 f5
    exact wpAny_pure (hdone _ I')
  | succ n ih =>
    intro i s hi I st fp
    refine codeAny_builtin PySem.F.entry_extend_loop ?_
    rw [Around.under_plainId PySem.F.plain_extend_loop _]
    show wpAny _ A1.in1 (pyNext (.ref it) >>= _) _ _ s
    have hd' : upd H q (.lst ((kvs.map fun kv => kV kv.1).take i)) d = some (.frz o (.dK kvs)) := by rw [upd_ne ndq]; exact hd
    obtain ⟨hs, hgd, hx, es', ep', vs, hdt', hsz', kv, hm⟩ := I.frzK hd'
    obtain ⟨rfl, rfl⟩ := dict_ep hdt hdt'
    obtain ⟨f0, f1, f2, f3, f4, f5⟩ := id fp
    have niq : it ≠ q := fun e => by rw [e, hq0] at f0; cases f0
    have hil : i < kvs.length := by omega
    obtain ⟨⟨k0, v0⟩, hkv⟩ : ∃ p, kvs[i]? = some p := ⟨kvs[i], List.getElem?_eq_getElem hil⟩
    obtain ⟨u, hu, ru⟩ := kv_get kv hkv
    have hl : kvs.length = vs.length := Paired.length kv
    have st0 := st
    rw [hl] at st0
    refine wpAny_bind (wpAny_pyNext_dict_item st0 hm hu fun key h' hkey st' sb => ?_)
    rw [← hl] at st'
    have I1 : Inv X pins σ (upd H q (.lst ((kvs.map fun kv => kV kv.1).take i))) { s with heap := h' } := I.turned (t' := s.toks) (fun b o hb e => (sb.2 b hb).trans e) (by rw [upd_ne niq]; exact f0) f1 f3 f4 f5
    have ru2 : RelV (kV k0) key := relV_key (show keyIs k0 key = true from hkey)
    show wpAny _ A1.in1 (updateSeq q (·.push key) >>= _) _ _ _
    obtain ⟨z, its2, kk, r2, hl2, e2⟩ := I1.lstM upd_same
    have hlt : ((kvs.map fun kv => kV kv.1).take i).length = i := by rw [List.length_take, List.length_map]; omega
    refine wpAny_bind (wpAny_updateSeq e2 rfl (wpAny_pure ⟨plainId_quiet PySem.F.plain_extend_loop _, ?_⟩) (by rw [List.size_toArray, ← hl2, hlt]; omega) (by show (its2.toArray.push key).size ≤ sizeLine + 1; rw [Array.size_push, List.size_toArray, ← hl2, hlt]; omega))
    have e3 : (kvs.map fun kv => kV kv.1).take (i + 1) = (kvs.map fun kv => kV kv.1).take i ++ [kV k0] := by rw [List.take_add_one, List.getElem?_map, hkv]; rfl
    have I2 := I1.lset (f := (·.push key)) (its' := its2 ++ [key]) (ys := (kvs.map fun kv => kV kv.1).take (i + 1)) (t' := s.toks) upd_same e2 (by simp) (by rw [e3]; exact r2.append (.cons ru2 .nil)) (by rw [List.length_take, List.length_map]; omega)
    rw [upd_upd] at I2
    refine ih (i + 1) _ (by omega) I2 (st'.at fun o e => ?_) fp
    exact (Heap.get?_update_other _ _ (Ne.symm niq)).trans e
theorem own_extendK {q : Addr} {Rs : Result → Shared → Prop} {sp : Sp} {m : Nat} (sb : Sub X (k + 1) A1.in1) (hh : A1.in1.handled = none) (ci : ItrK X C fi fdI fld k) (cl : LenC X C fl fdL sp k) (I : Inv X pins σ H s) (hp : H p = some (.ins C dx fs)) (hf : fs.lookup fld = some (.ref d)) (hd : H d = some (.frz o (.dK kvs))) (hsz : kvs.length < sizeLine)
    (hm : m ≤ sizeLine) (hsp : sp [.ref p] H (fun v H' => v = .int (m : Int) ∧ H' = H) E0) (hq : H q = some (.lst [])) (ndq : d ≠ q) (hdone : ∀ s, Inv X pins σ (upd H q (.lst (kvs.map fun kv => kV kv.1))) s → Rs (.ok (.ret .none)) s) (herr : ∀ e s, X.xe e s → Rs (.error e) s) :
    wpAny (model X.prog X.w) A1.in1 (Builtin.List.listExtendWith (.ref q) (.ref p) .none)
      (fun fin s' => match fin with | .done f => Rs (.ok f) s' | .again c' => c'.quiet = true ∧ codeAny (model X.prog X.w) A1 c' Rs s') (fun e s' => Rs (.error e) s') s := by
  have hne : q ≠ p := ne_of hq hp (fun z => nomatch z)
  obtain ⟨mA, J, _⟩ := ins_get I.hok hp
  obtain ⟨od, J, _⟩ := J.look
  unfold Builtin.List.listExtendWith
  refine wpAny_bind (J.type.here ?_)
  have h1 : Builtin.List.listSameRef (.ref q) (.ref p) = false := by simp [Builtin.List.listSameRef, hne]
  have h2 : (Value.ref C == Value.type "list") = false := rfl
  have h3 : (Value.ref C == Value.type "tuple") = false := rfl
  simp only [h1, h2, h3, Bool.or_false, Bool.false_eq_true, if_false]
  refine wpAny_bind (wpAny_mono (own_iterK (Q := fun v s' => ∃ it es ep, v = .ref it ∧ o.data = .dict es ep ∧ H it = none ∧ s.heap.objs.size ≤ it ∧ s'.heap.get? it = some (kitObj d kvs.length ep) ∧ Inv X pins σ H s') (sb.mono (Nat.le_succ k)) ci I hp hf hd fun it es ep s' z a b c e => ⟨it, es, ep, rfl, z, a, b, c, e⟩) (fun v s' hv => ?_) fun e s' he => herr e s' he)
  obtain ⟨it, es, ep, rfl, hdt, hn, hge, eo, I'⟩ := hv
  have fp : FpOk X pins H it := I.fpOk hge hn
  have niq : it ≠ q := fun e => by rw [e, hq] at hn; cases hn
  have hint : wpAny (model X.prog X.w) A1.in1 (Builtin.List.listLengthHint (.ref p)) (fun b s2 => Inv X pins σ H s2 ∧ s2.heap.IsKeyIter it d 0 kvs.length ep) (fun e s' => Rs (.error e) s') s' := by
    obtain ⟨mA', J', _⟩ := ins_get I'.hok hp
    obtain ⟨od', J', _⟩ := J'.look
    have IP : Inv X ((it, kitObj d kvs.length ep) :: pins) σ H s' := I'.pins_of fun r hr => by
      rcases List.mem_cons.mp hr with e | hr
      · rw [e]
        exact ⟨eo, hn, fp.2.1, fp.2.2.1, fun v z => by cases z⟩
      · exact I'.pin r (List.mem_append_right _ hr)
    unfold Builtin.List.listLengthHint
    refine wpAny_bind (wpAny_bind (J'.type.here ((PySem.W.looks_findIn I'.kIn cl.at_).here ?_)))
    refine PySem.W.KFB.if_not rfl ?_
    refine PySem.W.KFB.if_so rfl ?_
    refine wpAny_bind (wpAny_rule ?_)
    refine wpAny_bind (wpAny_attempt ?_)
    refine wpAny_mono (own_len (Q := fun v s2 => ∃ t, v = .int (m : Int) t ∧ Inv X ((it, kitObj d kvs.length ep) :: pins) σ H s2) (E' := fun _ _ => False) (Sub.in1 sb) cl.at_ cl.ty cl.fn cl.bi IP hp hm hsp fun t s2 h => ⟨t, rfl, h⟩) (fun v s2 hv => ?_) (fun e s2 he => he.elim)
    obtain ⟨t, rfl, I2⟩ := hv
    refine wpAny_bind (m := asInt? (.int (m : Int) t)) (wpAny_pure ?_)
    refine PySem.W.KFB.if_not (notLongL (by rw [Int.toNat_natCast]; exact hm)) ?_
    have eo2 := (I2.pin (it, kitObj d kvs.length ep) (List.mem_append_right _ List.mem_cons_self)).1
    exact wpAny_pure ⟨I2.pins_of fun r hr => I2.pin r (List.mem_append_right _ (List.mem_cons_of_mem _ hr)), _, eo2, rfl, rfl⟩
  refine wpAny_bind (wpAny_holding (wpAny_mono hint (fun room s2 hr => ?_) fun _ _ z => z))
  obtain ⟨I2, st2⟩ := hr
  have hupd : upd H q (.lst ((kvs.map fun kv => kV kv.1).take 0)) = H := by
    funext b
    by_cases hb : b = q
    · rw [hb, upd_same, hq]; rfl
    · rw [upd_ne hb]
  obtain ⟨z, its, k3, r3, hl3, e3⟩ := I2.lstM hq
  cases r3
  refine wpAny_ite_split (fun _ => ?_) (fun _ => wpAny_pure ⟨plainId_quiet PySem.F.plain_extend_loop _, ext_loopK hh ndq hd hdt hsz hq hdone kvs.length 0 s2 rfl (by rw [hupd]; exact I2) st2 fp⟩)
  refine wpAny_bind (wpAny_rule ?_)
  refine wpAny_bind ?_
  show wpAny _ _ (updateSeq q (·.push .none) >>= fun _ => updateSeq q (·.pop)) _ _ _
  refine wpAny_bind (wpAny_updateSeq e3 rfl ?_)
  have I4 := I2.lset (f := (·.push Value.none)) (its' := [Value.none]) (ys := [.non]) (t' := s2.toks) hq e3 (by simp) (.cons rfl .nil) (by rw [List.length_singleton, sizeLine_eq]; decide)
  obtain ⟨z4, its4, k4, r4, hl4, e4⟩ := I4.lstM upd_same
  obtain ⟨u4, rfl, ru4⟩ := r4.one
  refine wpAny_updateSeq e4 rfl ?_ (by show 1 ≤ sizeLine; rw [sizeLine_eq]; decide) (by show 0 ≤ sizeLine + 1; exact Nat.zero_le _)
  have I5 := I4.lset (f := (·.pop)) (its := [u4]) (its' := []) (ys := []) (t' := s2.toks) upd_same e4 (by rfl) .nil (Nat.zero_le _)
  rw [upd_upd] at I5
  refine wpAny_pure ⟨plainId_quiet PySem.F.plain_extend_loop _, ext_loopK hh ndq hd hdt hsz hq hdone kvs.length 0 _ rfl I5 ?_ fp⟩
  exact (st2.at fun o e => (Heap.get?_update_other _ _ (Ne.symm niq)).trans e).at fun o e => (Heap.get?_update_other _ _ (Ne.symm niq)).trans e
/-- list(o): a new list of the keys of the dict in the field -/
theorem call_listOwnK {sp : Sp} (ci : ItrK X C fi fdI fld k) (cl : LenC X C fl fdL sp k) (hc : X.calm = true) (hr : Room (k + 3) X.A) :
    CallR X (.type "list") (fun xs H Q => ∃ (p dx d : Addr) (fs : List (Str × V)) (kvs : List (Key × V)) (m : Nat), xs = [.ref p] ∧ H p = some (.ins C dx fs) ∧ fs.lookup fld = some (.ref d) ∧ H d = some (.dK kvs) ∧ kvs.length ≤ 1000 ∧ m ≤ sizeLine ∧
      (∀ H', H' p = some (.ins C dx fs) → Rd H' d (.dK kvs) → sp [.ref p] H' (fun v H'' => v = .int (m : Int) ∧ H'' = H') E0) ∧ ∀ q, H q = none → Q (.ref q) (upd H q (.lst (kvs.map fun kv => kV kv.1)))) := by
  intro pins s σ H xs us Q I rv h
  obtain ⟨p, dx, d, fs, kvs, m, rfl, hp, hf, hd, hz, hm, hsp, hq⟩ := h
  obtain ⟨u, rfl, ru⟩ := rv.one
  cases ru
  have sb : Sub X (k + 1) X.A.in1.in1 := (Sub.in1 (Sub.in1 (⟨hr, rfl⟩ : Sub X (k + 3) X.A)))
  refine callType_codes (Q₁ := fun obj s₁ => obj = .ref s.heap.objs.size ∧ s₁ = { s with heap := s.heap.push { cls := .type "list", data := .seq #[] } }) PySem.F.called_list (PySem.F.typeCall_list_1 _) PySem.F.entry_list_init
    (code_list_new _ ⟨rfl, rfl⟩) fun obj s₁ h₁ => ?_
  obtain ⟨rfl, rfl⟩ := h₁
  have hS : (s.heap.push { cls := .type "list", data := .seq #[] }).get? s.heap.objs.size = some { cls := .type "list", data := .seq #[] } := Heap.get?_push_size _ rfl
  refine ⟨⟨_, hS, rfl⟩, PySem.F.args_list_init_2 _ _, ?_⟩
  have fr : H s.heap.objs.size = none := I.hok.fresh (Nat.le_refl _)
  have hq' := hq _ fr
  have I1 : Inv X pins σ (upd H s.heap.objs.size (.lst [])) { s with heap := s.heap.push { cls := .type "list", data := .seq #[] } } := I.lnew (its := []) (t' := s.toks) .nil (Nat.zero_le _)
  show wpAny _ _ (do let old ← Builtin.List.listItems (.ref s.heap.objs.size); Builtin.List.listUpdate (.ref s.heap.objs.size) (fun _ => #[]); letGo old.toList.reverse; Builtin.List.listExtendWith (.ref s.heap.objs.size) (.ref p) .none) _ _ _
  refine wpAny_bind ?_
  unfold Builtin.List.listItems
  refine wpAny_bind (wpAny_seqItems hS rfl (wpAny_pure ?_))
  show wpAny _ _ (updateSeq s.heap.objs.size (fun _ => #[]) >>= fun _ => letGo (#[] : Array Value).toList.reverse >>= fun _ => Builtin.List.listExtendWith (.ref s.heap.objs.size) (.ref p) .none) _ _ _
  refine wpAny_bind (wpAny_updateSeq hS rfl ?_)
  have I2 := I1.lset (f := fun _ => #[]) (its := []) (its' := []) (ys := []) (t' := s.toks) upd_same hS rfl .nil (Nat.zero_le _)
  rw [upd_upd] at I2
  refine wpAny_bind (wpAny_letGo ?_)
  have ndq : d ≠ s.heap.objs.size := ne_of_none hd fr
  have hd2 : upd H s.heap.objs.size (.lst []) d = some (.dK kvs) := by rw [upd_ne ndq]; exact hd
  have hp2 : upd H s.heap.objs.size (.lst []) p = some (.ins C dx fs) := by rw [upd_ne (ne_of_none hp fr)]; exact hp
  have npd : p ≠ d := ne_of hp hd (fun z => nomatch z)
  have nf := I2.nofrz hd2 True.intro
  obtain ⟨o, I3⟩ := I2.lock hd2 True.intro
  have hp3 : upd (upd H s.heap.objs.size (.lst [])) d (.frz o (.dK kvs)) p = some (.ins C dx fs) := by rw [upd_ne npd]; exact hp2
  refine own_extendK (q := s.heap.objs.size) (A1 := X.A.in1) (Rs := wants (fun r s₂ => r = .none ∧ EP X pins σ Q (.ref s.heap.objs.size) s₂) X.xe) sb (I.ok.hd hc) ci cl I3 hp3 hf upd_same (Nat.lt_of_le_of_lt hz (by decide)) hm (hsp _ hp3 (.inr ⟨o, upd_same⟩)) (by rw [upd_ne (Ne.symm ndq)]; exact upd_same) ndq
    (fun s' I' => ⟨rfl, .ref s.heap.objs.size, _, I'.unlock (by rw [upd_ne ndq]; exact upd_same) nf, rfl, ?_⟩) (fun e s' he => he)
  have e : upd (upd (upd (upd H s.heap.objs.size (.lst [])) d (.frz o (.dK kvs))) s.heap.objs.size (.lst (kvs.map fun kv => kV kv.1))) d (.dK kvs) = upd H s.heap.objs.size (.lst (kvs.map fun kv => kV kv.1)) := by
    funext b
    by_cases hb : b = d
    · rw [hb, upd_same, upd_ne ndq, hd]
    · rw [upd_ne hb]
      by_cases hb2 : b = s.heap.objs.size
      · rw [hb2, upd_same, upd_same]
      · rw [upd_ne hb2, upd_ne hb, upd_ne hb2, upd_ne hb2]
  rw [e]; exact hq'
end
end RK

set_option maxRecDepth 100000
set_option maxHeartbeats 2000000
/-! an own exception with its own __init__, made where nothing is handled: its context is None -/
namespace RN
open PySem PySem.Spec PyProof.Rows L2
section
variable {X : Cx} {e : Expr} {es : List Expr} {ta : TA} {p pos : Pos}
theorem mk_endN {pins : List (Addr × Obj)} {σ : L2.St} {Ha Hb : Hp} {Q : XK} {hh hh2 hb2 : Heap} {gg gg2 : Array GenState} {d1 dd2 : Drawn} {t1 tt2 : Nat} {oz oz2 : OsState} {a C d : Addr} {fs : List (Str × V)} (T : Raises X (.ref C)) (Ia : Inv X pins σ Ha ⟨hh, gg, d1, t1, oz⟩)
    (ha : hh.objs.size ≤ a) (k : ∀ b o, hh.get? b = some o → hh2.get? b = some o) (un : Un (frs X.stack) [] (upd Ha a (exo a C none)) Hb hh2 hb2) (hok : HOk X.prog X.w Hb hb2) (ho : oz2 = oz) (hb : AllBare gg2)
    (ea : Hb a = some (exo a C (some d))) (ed : Hb d = some (exd d fs)) (hd1 : Ha d = none) (q : Q (.ref C) (some d) (upd (del Hb a) d (.xd fs))) : L2N.MkP X pins σ Q (.ref a) ⟨hb2, gg2, dd2, tt2, oz2⟩ := by
  obtain ⟨t0, G, J, kG, ge, hoe, na⟩ := mk_end0 (d2 := dd2) (t2 := tt2) Ia ha k un hok ho hb ea ed hd1
  exact ⟨a, _, _, ⟨G, gg2, dd2, tt2, oz2⟩, _, .ref C, some d, rfl, J, kG, ge, hoe, ⟨rfl, rfl, fun vs hv => by cases hv; rfl⟩, rfl, rfl, na, rfl, hb, T, q⟩
theorem pmk_oexN {CX : CXT} {x : Str} {C fI : Addr} {k : Nat} {fd : FuncData} {ps : List Str} {sp : Sp} {dz : List Value} {dvz : List V} (T : OexC X.K C) (iC : PySem.W.findIn X.K (.ref C) "__init__" = some (some (.ref fI))) (tI : PySem.W.typeIn X.K (.ref fI) = some (.type "function"))
    (F1 : FnOk X.prog X.w X.K X.mg X.base CX k fI fd ps sp) (hr : Room (k + 1) X.A) (hb : Binds X.K fd ps dz) (hd : Vals dvz dz) (hx : Passes CX X (fun _ _ _ => False)) (hg : Gl X x) (hm : X.mg x = some (.ref C)) (ha : PA X (e :: es) ta)
    (hdb : (x == ("__debug__" : Str)) = false := by decide) (he : starEach (e :: es) X.env = (false, eval e X.env) :: starEach es X.env := by rfl) (hpl : (backTo pos (starEach es X.env)).any (·.1) = false := by rfl) :
    L2N.PMk X (.Call (.Name x p) (e :: es) [] pos) (tMkO C sp dvz ta) := by
  intro pins s σ H Q I h
  obtain ⟨nm, q, N, bs, bm, sn, sub, ab, col, dd, k0, k1, k2, k3, k5, hC, hbm⟩ := T.cls
  refine wpAny_Call_Name_kw (ld_glob I hg hm ?_ hdb)
  refine PySem.W.callWith_K (h₀ := X.base) I.ok.mod.kin T.kC (thn (ha.run pos pins s σ H _ I h) fun uu sa ⟨vv, Ha, Ia, ra, hz, qa⟩ => ⟨Ia.kIn, ?_⟩) he hpl
  show wpAny _ _ (call (.ref C) uu) _ _ _
  obtain ⟨hh, gg, dr, kt, oz⟩ := sa
  have hle : hh.objs.size ≤ hh.objs.size + 1 := Nat.le_succ _
  have hna : Ha (hh.objs.size + 1) = none := Ia.hok.fresh hle
  have hqa := qa (hh.objs.size + 1) hna
  have kp : ∀ b o, hh.get? b = some o → ((hh.push (PySem.W.kdv_tup uu)).push (PySem.HandSPX.excO C hh.objs.size)).get? b = some o := fun b o e => Heap.get?_push_of_some _ (Heap.get?_push_of_some _ e)
  have hob : ((hh.push (PySem.W.kdv_tup uu)).push (PySem.HandSPX.excO C hh.objs.size)).get? (hh.objs.size + 1) = some (PySem.HandSPX.excO C hh.objs.size) := by heap_get
  have Ib : Inv X pins σ (upd Ha (hh.objs.size + 1) (exo (hh.objs.size + 1) C none)) ⟨(hh.push (PySem.W.kdv_tup uu)).push (PySem.HandSPX.excO C hh.objs.size), gg, dr, kt, oz⟩ :=
    Ia.laid (t' := kt) (a := hh.objs.size + 1) (o := exo (hh.objs.size + 1) C none) (h' := (hh.push (PySem.W.kdv_tup uu)).push (PySem.HandSPX.excO C hh.objs.size)) kp hle (exo_ok hob)
  have rb : Vals (V.ref (hh.objs.size + 1) :: (vv ++ dvz)) (Value.ref (hh.objs.size + 1) :: (uu ++ dz)) := .cons rfl (ra.append hd)
  have hlen : (Value.ref (hh.objs.size + 1) :: uu ++ dz).length = ps.length := by
    have e := rb.length
    rw [F1.len _ _ _ _ hqa] at e
    exact e.symm
  have huu : uu.length ≤ sizeLine := by
    rw [← Paired.length ra, sizeLine_eq]
    omega
  refine wpAny_call (PySem.HandSPX.call_own F.excBase_ValueError (fun Y => PySem.HandSPX.refsVE_contains Y bm hbm) (Ia.kIn _ _ hC) (PySem.W.looks_findIn Ia.kIn iC) (fun self => PySem.W.bind_fn Ia.kIn self tI) huu
    (codeAny_mono (F1.run _ X.stack _ _ ⟨Value.ref (hh.objs.size + 1) :: uu, []⟩ (Value.ref (hh.objs.size + 1) :: (uu ++ dz)) _ _ (fun _ _ _ => False) (hr.make C uu []) (Ib.env0.make C uu []) (hb _ (Value.ref (hh.objs.size + 1) :: uu) Ib.kIn hlen) rb hqa) fun r s' hqq => ?_))
  cases r with
  | error erx => exact hx pins σ _ _ erx s' Ib hqq
  | ok fl =>
    cases fl with
    | ret u =>
      obtain ⟨v, Hb, oz2, bar2, unb, hokb, rvv, evv, d, fs, ea, ed, hd1, qb⟩ := hqq
      subst evv
      obtain ⟨hb2, gg2, dd2, tt2, os'⟩ := s'
      exact ⟨rvv, mk_endN (raises_own T.exC T.tyC) Ia hle kp unb hokb oz2 bar2 ea ed hd1 qb⟩
    | next => exact False.elim hqq
    | brk => exact False.elim hqq
    | cont => exact False.elim hqq

end
theorem takes0N {X : Cx} : L2N.Takes X (fun _ _ _ _ => False) := fun _ _ x => by
  obtain ⟨_, _, _, _, _, _, _, _, _, _, _, _, _, _, _, _, z⟩ := x
  exact z.elim
/-- a def that may raise where nothing is handled -/
theorem okXN {P : Program} {w : World} {K : PySem.W.Frag} {mg : Str → Option Value} {base : Heap} {x qual : Str} {st : Stmt} {f : Addr} {fd : FuncData} {N ps : List Str} {k : Nat} {sp : Sp} (F : Fun K x qual st f fd) (S : FnScope N ps (defScope st)) (hl : ∀ vs H Q E, sp vs H Q E → vs.length = ps.length)
    (hb : ∀ (cdv : Value) (A : Around) (outer : List Env) (s : Shared) (H : Hp) (vs : List V) (Q : VK) (E : XK), Room k (A.deeper (envOfC qual (defScope st) s.heap.objs.size f cdv)) → sp vs H Q E →
      ∃ u, PSs (cxOf (L2N.CX P w) P w K mg base N qual (defScope st) f cdv A outer s H E) (defBody st) u ∧ u { nx := fun _ G => Q .non G, rt := Q } (start N vs) H) : FnOk P w K mg base (L2N.CX P w) (k + 1) f fd ps sp := by
  obtain ⟨c1, c2, c3, c4, c5, c6, c7, c8, c9, rfl, lk, hcd⟩ := F.ex
  exact fn_of lk hcd S hl fun A outer s H vs Q E hr hsp => hb c7 A outer s H vs Q E hr hsp
/-- a def called inside an except suite -/
theorem okH {P : Program} {w : World} {K : PySem.W.Frag} {mg : Str → Option Value} {base : Heap} {x qual : Str} {st : Stmt} {f : Addr} {fd : FuncData} {N ps : List Str} {k : Nat} {sp : Sp} (F : Fun K x qual st f fd) (S : FnScope N ps (defScope st)) (hl : ∀ vs H Q E, sp vs H Q E → vs.length = ps.length)
    (hb : ∀ (cdv : Value) (A : Around) (outer : List Env) (s : Shared) (H : Hp) (vs : List V) (Q : VK) (E : XK) (p : Addr × Obj), sp vs H Q E →
      ∃ u, PSs (L2H.cxH CX0 P w K mg base N qual (defScope st) f cdv A outer s H E p) (defBody st) u ∧ u { nx := fun _ G => Q .non G, rt := Q } (start N vs) H) : L2H.FnH P w K mg base CX0 (k + 1) f fd ps sp := by
  obtain ⟨c1, c2, c3, c4, c5, c6, c7, c8, c9, rfl, lk, hcd⟩ := F.ex
  exact L2H.fn_ofH lk hcd S hl fun A outer s H vs Q E p _ _ hsp => hb c7 A outer s H vs Q E p hsp
end RN

set_option maxRecDepth 100000
set_option maxHeartbeats 2000000
namespace RJ
open PySem PySem.Spec PyProof.Rows L2
/-! ### enumerate(text) -/
def IteS (x : Str) : It :=
  ⟨fun i H => i < x.cps.size, fun i H v H' => ∃ T c, v = .ref T ∧ H T = none ∧ H' = upd H T (.tup [.int (i : Nat), .str ⟨#[c]⟩]) ∧ x.cps[i]? = some c, fun i H => i = x.cps.size⟩
theorem turn_enumS {P : Program} {w : World} {K : PySem.W.Frag} {elts : List Expr} {kk : Nat} {tpos : Pos} (x : Str) (t : Tok) (e it : Addr) :
    Turn P w K (.Tuple elts kk tpos) (IteS x) [e, it] e (fun i h => (∃ old, IsEnum h e it ((i : Nat) : Int) old) ∧ h.IsStrIter it (strIterType x) x t i ∧ e ≠ it) where
  mem := by simp
  obj := fun i h st b hb => by
    obtain ⟨⟨old, he⟩, ⟨o, ho, hc, hd⟩, _⟩ := st
    have eb : b = e ∨ b = it := by simpa using hb
    rcases eb with y | y <;> rw [y]
    · exact ⟨_, he, fun v q => nomatch q⟩
    · exact ⟨o, ho, fun v q => by rw [hd] at q; cases q⟩
  keep := fun i h h' st k => let ⟨⟨old, he⟩, ⟨o, ho, r⟩, ne⟩ := st; ⟨⟨old, k e (by simp) _ he⟩, ⟨o, k it (by simp) o ho, r⟩, ne⟩
  item := by
    intro X hP hw hK hc i pins s σ H E I hf st hg
    subst hP hw hK
    obtain ⟨⟨old, he⟩, hit, ne⟩ := st
    have hel : e < s.heap.objs.size := Heap.lt_size he
    have hil : it < s.heap.objs.size := by obtain ⟨_, q, _⟩ := hit; exact Heap.lt_size q
    have hd0 : X.A.in1.handled = none := I.ok.hd hc
    refine wpAny_pyNext_enum_itemD (Draws.text hd0 it x t) he hit hg ne (by simp [ne]) fun u' h' tk hP2 ho st2 hT hsz hk => ?_
    obtain ⟨c, u, hx, rfl⟩ := hP2
    refine ⟨_, rfl, wpAny_letOwnedTupleGo_enum (s := { s with heap := h', toks := tk + 1 }) ho fun h'' he' sb => ?_⟩
    have hT2 : h''.get? s.heap.objs.size = some { cls := .type "tuple", data := .seq #[.int i tk, .str ⟨#[c]⟩ u] } := (sb.2 _ (Nat.ne_of_gt hel)).trans hT
    have new : ObjOk X.prog X.w (upd H s.heap.objs.size (.tup [.int (i : Nat), .str ⟨#[c]⟩])) h'' s.heap.objs.size (.tup [.int (i : Nat), .str ⟨#[c]⟩]) := ⟨by show 2 ≤ sizeLine; decide, [.int i tk, .str ⟨#[c]⟩ u], .cons ⟨_, rfl⟩ (.cons ⟨_, rfl⟩ .nil), ⟨_, hT2, rfl, _, rfl⟩⟩
    have I1 : Inv X pins σ (upd H s.heap.objs.size (.tup [.int (i : Nat), .str ⟨#[c]⟩])) { s with heap := h'', toks := tk + 1 } :=
      I.turnedNew (ch := [e, it]) (fun b ob hb q => (sb.2 b (fun z => hb (by simp [z]))).trans (hk b ob (fun z => hb (by simp [z])) (fun z => hb (by simp [z])) q)) hf (Nat.le_refl _) new
    refine ⟨.ref s.heap.objs.size, _, I1, rfl, ⟨_, c, rfl, I.hok.fresh (Nat.le_refl _), rfl, hx⟩, ⟨⟨.str ⟨#[c]⟩ u, ?_⟩, ?_, ne⟩, fun b hb => ?_⟩
    · rw [show ((i + 1 : Nat) : Int) = (i : Int) + 1 by omega]; exact he'
    · obtain ⟨o, q, r⟩ := st2
      exact ⟨o, (sb.2 it (Ne.symm ne)).trans q, r⟩
    · have eb : b = e ∨ b = it := by simpa using hb
      have hb' : b < s.heap.objs.size := by rcases eb with y | y <;> rw [y] <;> assumption
      rw [upd_ne (Nat.ne_of_lt hb')]; exact (hf b hb).1
  done := by
    intro X hP hw hK hc i pins s σ H E I hf st hg
    subst hP hw hK
    obtain ⟨⟨old, he⟩, hit, ne⟩ := st
    obtain ⟨f0, f1, f2, f3, f4, f5⟩ := hf it (by simp)
    have hd0 : X.A.in1.handled = none := I.ok.hd hc
    have hi : i = x.cps.size := hg
    refine wpAny_pyNext_enum_endD (Draws.text hd0 it x t) he (by rw [← hi]; exact hit) fun h' eb => ?_
    exact ⟨rfl, I.turned (t' := s.toks) (fun b o hb q => eb b o hb q) f0 f1 f3 f4 f5⟩
  self := fun A i s Q E st h => let ⟨⟨_, he⟩, _⟩ := st; wpAny_pyIter_enum he h
def iEnumS (ta : TA) : TI := fun σ H R => ta σ H fun vs H1 => ∃ x, vs = [.str x] ∧ R (IteS x) H1
theorem pi_enumS {X : Cx} {e : Expr} {ta : TA} {p pos tpos : Pos} {elts : List Expr} {kk : Nat} (hg : Gl X "enumerate") (hm : X.mg "enumerate" = none) (ha : PA X [e] ta) (hs : starEach [e] X.env = [(false, eval e X.env)] := by rfl) :
    PI X (.Tuple elts kk tpos) (.Call (.Name "enumerate" p) [e] [] pos) (iEnumS ta) := by
  refine ⟨fun pins s σ H R I h => Call_ (ld_blt I hg hm boot_enumerate (PyProof.Rows.callWith_type1 (thn (ha.run pos pins s σ H _ I h) fun us s1 ⟨vs, H1, I1, r1, q1⟩ => ?_) hs rfl))⟩
  obtain ⟨x, rfl, q⟩ := q1
  cases r1 with
  | cons r rr =>
    cases rr; obtain ⟨t, rfl⟩ := r
    refine call_enumerate_str fun h' he hit hsz hk => wpAny_pyIter_enum he ?_
    have I2 : Inv X pins σ H1 { s1 with heap := h' } := I1.kept (t' := s1.toks) hk
    refine ⟨s1.heap.objs.size + 1, [s1.heap.objs.size + 1, s1.heap.objs.size], _, _, H1, rfl, I2, turn_enumS x t (s1.heap.objs.size + 1) s1.heap.objs.size, ⟨⟨.none, he⟩, hit, Nat.succ_ne_self _⟩, fun b hb => ?_, q⟩
    have hle : s1.heap.objs.size ≤ b := by
      have eb : b = s1.heap.objs.size + 1 ∨ b = s1.heap.objs.size := by simpa using hb
      rcases eb with y | y <;> rw [y]
      · exact Nat.le_add_right _ _
      · exact Nat.le_refl _
    exact I1.fpOk hle (I1.hok.fresh hle)
theorem for_enumS {x : Str} {g : TG} {tb : TS} {D : Ends} {σ : L2.St} {H : Hp} (Pv : Nat → L2.St → Hp → Prop) (h0 : Pv 0 σ H)
    (hs : ∀ (i c : Nat) (T : Addr) (σ : L2.St) (H : Hp), x.cps[i]? = some c → Pv i σ H → H T = none → g (.ref T) σ (upd H T (.tup [.int (i : Nat), .str ⟨#[c]⟩])) fun σ2 H2 => tb { D with nx := Pv (i + 1), ct := Pv (i + 1), bk := D.nx } σ2 H2) (hd : ∀ σ H, Pv x.cps.size σ H → D.nx σ H) :
    ∃ W : Nat → Nat → L2.St → Hp → Prop, (∃ m, W 0 m σ H) ∧ ∀ i m σ H, W i m σ H →
      ((IteS x).stop i H ∧ D.nx σ H) ∨ ((IteS x).go i H ∧ ∃ N : L2.St → Hp → Prop, (∀ σ' H', N σ' H' → ∃ m', m' < m ∧ W (i + 1) m' σ' H') ∧ ∀ v H', (IteS x).yld i H v H' → g v σ H' fun σ2 H2 => tb { D with nx := N, ct := N, bk := D.nx } σ2 H2) := by
  refine ⟨fun i m σ H => m = x.cps.size - i ∧ i ≤ x.cps.size ∧ Pv i σ H, ⟨x.cps.size, rfl, Nat.zero_le _, h0⟩, fun i m σ H => ?_⟩
  rintro ⟨rfl, hi, p⟩
  by_cases hlt : i < x.cps.size
  · refine .inr ⟨hlt, Pv (i + 1), fun σ' H' p' => ⟨x.cps.size - (i + 1), by omega, rfl, hlt, p'⟩, fun v H' y => ?_⟩
    obtain ⟨T, c, rfl, hT, rfl, f1⟩ := y
    exact hs i c T σ H f1 p hT
  · obtain rfl : i = x.cps.size := by omega
    exact .inl ⟨rfl, hd σ H p⟩
/-! ### zip(text, text) -/
def ItzS (x y : Str) : It :=
  ⟨fun i H => i < x.cps.size ∧ i < y.cps.size, fun i H v H' => ∃ T c d, v = .ref T ∧ H T = none ∧ H' = upd H T (.tup [.str ⟨#[c]⟩, .str ⟨#[d]⟩]) ∧ x.cps[i]? = some c ∧ y.cps[i]? = some d,
    fun i H => i ≤ x.cps.size ∧ i ≤ y.cps.size ∧ (i = x.cps.size ∨ i = y.cps.size)⟩
theorem turn_zipS {P : Program} {w : World} {K : PySem.W.Frag} {elts : List Expr} {kk : Nat} {tpos : Pos} (x y : Str) (t1 t2 : Tok) {z TI TO i1 i2 : Addr} (S : ZipSep2 z TI TO i1 i2 [i1] [i2]) :
    Turn P w K (.Tuple elts kk tpos) (ItzS x y) [z, TI, TO, i1, i2] z (fun i h => IsZip h z TI TO .none ∧ IsTupOf2 h TI (.ref i1) (.ref i2) ∧ (∃ a b, IsTupOf2 h TO a b) ∧ h.IsStrIter i1 (strIterType x) x t1 i ∧ h.IsStrIter i2 (strIterType y) y t2 i) where
  mem := by simp
  obj := fun i h st c hc => by
    obtain ⟨hz, hTI, ⟨a, b, hTO⟩, ⟨o1, e1, _, d1⟩, ⟨o2, e2, _, d2⟩⟩ := st
    have e' : c = z ∨ c = TI ∨ c = TO ∨ c = i1 ∨ c = i2 := by simpa using hc
    rcases e' with q | q | q | q | q
    · rw [q]; exact ⟨_, hz, fun v q => nomatch q⟩
    · rw [q]; exact ⟨_, hTI, fun v q => nomatch q⟩
    · rw [q]; exact ⟨_, hTO, fun v q => nomatch q⟩
    · rw [q]; exact ⟨o1, e1, fun v q => by rw [d1] at q; cases q⟩
    · rw [q]; exact ⟨o2, e2, fun v q => by rw [d2] at q; cases q⟩
  keep := fun i h h' st k => by
    obtain ⟨hz, hTI, ⟨a, b, hTO⟩, ⟨o1, e1, r1⟩, ⟨o2, e2, r2⟩⟩ := st
    exact ⟨k z (by simp) _ hz, k TI (by simp) _ hTI, ⟨a, b, k TO (by simp) _ hTO⟩, ⟨o1, k i1 (by simp) o1 e1, r1⟩, ⟨o2, k i2 (by simp) o2 e2, r2⟩⟩
  item := by
    intro X hP hw hK hc i pins s σ H E I hf st hg
    subst hP hw hK
    obtain ⟨hz, hTI, ⟨a0, b0, hTO⟩, h1, h2⟩ := st
    obtain ⟨hlt1, hlt2⟩ := hg
    have hzl : z < s.heap.objs.size := Heap.lt_size hz
    have hd0 : X.A.in1.handled = none := I.ok.hd hc
    refine wpAny_pyNext_zipD2_item S (Draws.text hd0 i1 x t1) (Draws.text hd0 i2 y t2) hz hTI hTO h1 h2 hlt1 hlt2 fun x1 x2 h' tk p1 p2 z' TO' h1' h2' hT hsz hk => ?_
    obtain ⟨c, u, hx, rfl⟩ := p1
    obtain ⟨d, u2, hy, rfl⟩ := p2
    refine ⟨_, rfl, wpAny_letOwnedTupleGo_zip (s := { s with heap := h', toks := tk }) z' fun h'' z'' sb => ?_⟩
    have hT2 : h''.get? s.heap.objs.size = some { cls := .type "tuple", data := .seq #[.str ⟨#[c]⟩ u, .str ⟨#[d]⟩ u2] } := (sb.2 _ (Nat.ne_of_gt hzl)).trans hT
    have new : ObjOk X.prog X.w (upd H s.heap.objs.size (.tup [.str ⟨#[c]⟩, .str ⟨#[d]⟩])) h'' s.heap.objs.size (.tup [.str ⟨#[c]⟩, .str ⟨#[d]⟩]) :=
      ⟨by show 2 ≤ sizeLine; decide, [.str ⟨#[c]⟩ u, .str ⟨#[d]⟩ u2], .cons ⟨_, rfl⟩ (.cons ⟨_, rfl⟩ .nil), ⟨_, hT2, rfl, _, rfl⟩⟩
    have I1 : Inv X pins σ (upd H s.heap.objs.size (.tup [.str ⟨#[c]⟩, .str ⟨#[d]⟩])) { s with heap := h'', toks := tk } :=
      I.turnedNew (ch := [z, TI, TO, i1, i2]) (fun c o hb q => (sb.2 c (fun q' => hb (by simp [q']))).trans (hk c o (fun q' => hb (by simp [q'])) (fun q' => hb (by simp [q'])) (fun q' => hb (by simp [q'])) (fun q' => hb (by simp [q'])) q)) hf (Nat.le_refl _) new
    refine ⟨.ref s.heap.objs.size, _, I1, rfl, ⟨_, c, d, rfl, I.hok.fresh (Nat.le_refl _), rfl, hx, hy⟩, ⟨z'', ?_, ⟨.str ⟨#[c]⟩ u, .str ⟨#[d]⟩ u2, ?_⟩, ?_, ?_⟩, fun c hcm => ?_⟩
    · exact (sb.2 _ S.TIz).trans (hk _ _ S.TIz S.TITO S.TIi1 S.TIi2 hTI)
    · exact (sb.2 _ S.TOz).trans TO'
    · obtain ⟨o, q, r⟩ := h1'
      exact ⟨o, (sb.2 _ (Ne.symm S.zi1)).trans q, r⟩
    · obtain ⟨o, q, r⟩ := h2'
      exact ⟨o, (sb.2 _ (Ne.symm S.zi2)).trans q, r⟩
    · have hlt : c < s.heap.objs.size := by
        have e' : c = z ∨ c = TI ∨ c = TO ∨ c = i1 ∨ c = i2 := by simpa using hcm
        rcases e' with q | q | q | q | q
        · rw [q]; exact hzl
        · rw [q]; exact Heap.lt_size hTI
        · rw [q]; exact Heap.lt_size hTO
        · rw [q]; obtain ⟨_, e1, _⟩ := h1; exact Heap.lt_size e1
        · rw [q]; obtain ⟨_, e2, _⟩ := h2; exact Heap.lt_size e2
      rw [upd_ne (Nat.ne_of_lt hlt)]
      exact (hf c hcm).1
  done := by
    intro X hP hw hK hc i pins s σ H E I hf st hg
    subst hP hw hK
    obtain ⟨hz, hTI, ⟨a0, b0, hTO⟩, h1, h2⟩ := st
    obtain ⟨l1, l2, hend⟩ := hg
    have hd0 : X.A.in1.handled = none := I.ok.hd hc
    exact wpAny_pyNext_zipD2_end S (Draws.text hd0 i1 x t1) (Draws.text hd0 i2 y t2) hz hTI hTO h1 h2 l1 l2 hend fun h' tk hk => ⟨rfl, I.turnedL (t' := tk) (ch := [z, TI, TO, i1, i2]) (fun c o hb q =>
      hk c o (fun q' => hb (by simp [q'])) (fun q' => hb (by simp [q'])) (fun q' => hb (by simp [q'])) (fun q' => hb (by simp [q'])) q) hf⟩
  self := fun A i s Q E st h => wpAny_pyIter_zip st.1 h
def iZipS (ta : TA) : TI := fun σ H R => ta σ H fun vs H1 => ∃ x y, vs = [.str x, .str y] ∧ R (ItzS x y) H1
theorem pi_zipS {X : Cx} {e e2 : Expr} {ta : TA} {p pos tpos : Pos} {elts : List Expr} {kk : Nat} (hg : Gl X "zip") (hm : X.mg "zip" = none) (ha : PA X [e, e2] ta)
    (hs : starEach [e, e2] X.env = (false, eval e X.env) :: starEach [e2] X.env := by rfl) (hpl : (backTo pos (starEach [e2] X.env)).any (·.1) = false := by rfl) :
    PI X (.Tuple elts kk tpos) (.Call (.Name "zip" p) [e, e2] [] pos) (iZipS ta) := by
  refine ⟨fun pins s σ H R I h => ?_⟩
  refine Call_ (ld_blt I hg hm PyProof.Rows.boot_zip (PyProof.Rows.callWith_type1 (thn (ha.run pos pins s σ H _ I h) fun us s1 ⟨vs, H1, I1, r1, q1⟩ => ?_) hs hpl))
  obtain ⟨x, y, rfl, q⟩ := q1
  cases r1 with
  | cons r rr =>
    cases rr with
    | cons r' rr =>
      cases rr
      obtain ⟨t1, rfl⟩ := r
      obtain ⟨t2, rfl⟩ := r'
      have fresh5 : ∀ c, c ∈ [s1.heap.objs.size + 4, s1.heap.objs.size + 2, s1.heap.objs.size + 3, s1.heap.objs.size, s1.heap.objs.size + 1] → FpOk X pins H1 c := fun c hcm => by
        have e' : c = s1.heap.objs.size + 4 ∨ c = s1.heap.objs.size + 2 ∨ c = s1.heap.objs.size + 3 ∨ c = s1.heap.objs.size ∨ c = s1.heap.objs.size + 1 := by simpa using hcm
        have hle : s1.heap.objs.size ≤ c := by
          rcases e' with z | z | z | z | z
          · rw [z]; exact Nat.le_add_right _ _
          · rw [z]; exact Nat.le_add_right _ _
          · rw [z]; exact Nat.le_add_right _ _
          · rw [z]; exact Nat.le_refl _
          · rw [z]; exact Nat.le_add_right _ _
        exact I1.fpOk hle (I1.hok.fresh hle)
      refine zip_begins2 (begins_text x t1) (begins_text y t2) trivial trivial fun h' hz hTI hTO g1 g2 hsz hk => wpAny_pyIter_zip hz ?_
      have I2 : Inv X pins σ H1 { s1 with heap := h' } := I1.kept (t' := s1.toks) hk
      refine ⟨s1.heap.objs.size + 4, [s1.heap.objs.size + 4, s1.heap.objs.size + 2, s1.heap.objs.size + 3, s1.heap.objs.size, s1.heap.objs.size + 1], _, _, H1, rfl, I2, turn_zipS x y t1 t2 ?_, ⟨hz, hTI, ⟨_, _, hTO⟩, ⟨_, g1, rfl, rfl⟩, ⟨_, g2, rfl, rfl⟩⟩, fresh5, q⟩
      constructor <;> simp
theorem for_zipS {x y : Str} {g : TG} {tb : TS} {D : Ends} {σ : L2.St} {H : Hp} (n : Nat) (hn : n = min x.cps.size y.cps.size) (Pv : Nat → L2.St → Hp → Prop) (h0 : Pv 0 σ H)
    (hs : ∀ (i c d : Nat) (T : Addr) (σ : L2.St) (H : Hp), i < n → x.cps[i]? = some c → y.cps[i]? = some d → Pv i σ H → H T = none → g (.ref T) σ (upd H T (.tup [.str ⟨#[c]⟩, .str ⟨#[d]⟩])) fun σ2 H2 => tb { D with nx := Pv (i + 1), ct := Pv (i + 1), bk := D.nx } σ2 H2) (hd : ∀ σ H, Pv n σ H → D.nx σ H) :
    ∃ W : Nat → Nat → L2.St → Hp → Prop, (∃ m, W 0 m σ H) ∧ ∀ i m σ H, W i m σ H →
      ((ItzS x y).stop i H ∧ D.nx σ H) ∨ ((ItzS x y).go i H ∧ ∃ N : L2.St → Hp → Prop, (∀ σ' H', N σ' H' → ∃ m', m' < m ∧ W (i + 1) m' σ' H') ∧ ∀ v H', (ItzS x y).yld i H v H' → g v σ H' fun σ2 H2 => tb { D with nx := N, ct := N, bk := D.nx } σ2 H2) := by
  refine ⟨fun i m σ H => m = n - i ∧ i ≤ n ∧ Pv i σ H, ⟨n, rfl, Nat.zero_le _, h0⟩, fun i m σ H => ?_⟩
  rintro ⟨rfl, hi, p⟩
  by_cases hlt : i < n
  · refine .inr ⟨⟨by omega, by omega⟩, Pv (i + 1), fun σ' H' p' => ⟨n - (i + 1), by omega, rfl, hlt, p'⟩, fun v H' y => ?_⟩
    obtain ⟨T, c, d, rfl, hT, rfl, f1, f2⟩ := y
    exact hs i c d T σ H hlt f1 f2 p hT
  · obtain rfl : i = n := by omega
    exact .inl ⟨⟨by omega, by omega, by omega⟩, hd σ H p⟩
theorem for_enumL {K : PySem.W.Frag} {a : Addr} {xs : List V} {g : TG} {tb : TS} {D : Ends} {σ : L2.St} {H : Hp} (Pv : Nat → L2.St → Hp → Prop) (h0 : Pv 0 σ H) (hq : ∀ i σ H, Pv i σ H → SqL K H a xs)
    (hs : ∀ (i : Nat) (x : V) (T : Addr) (σ : L2.St) (H : Hp), xs[i]? = some x → Pv i σ H → H T = none → g (.ref T) σ (upd H T (.tup [.int (i : Nat), x])) fun σ2 H2 => tb { D with nx := Pv (i + 1), ct := Pv (i + 1), bk := D.nx } σ2 H2) (hd : ∀ σ H, Pv xs.length σ H → D.nx σ H) :
    ∃ W : Nat → Nat → L2.St → Hp → Prop, (∃ m, W 0 m σ H) ∧ ∀ i m σ H, W i m σ H →
      ((Ite K a).stop i H ∧ D.nx σ H) ∨ ((Ite K a).go i H ∧ ∃ N : L2.St → Hp → Prop, (∀ σ' H', N σ' H' → ∃ m', m' < m ∧ W (i + 1) m' σ' H') ∧ ∀ v H', (Ite K a).yld i H v H' → g v σ H' fun σ2 H2 => tb { D with nx := N, ct := N, bk := D.nx } σ2 H2) := by
  refine ⟨fun i m σ H => m = xs.length - i ∧ i ≤ xs.length ∧ Pv i σ H, ⟨xs.length, rfl, Nat.zero_le _, h0⟩, fun i m σ H => ?_⟩
  rintro ⟨rfl, hi, p⟩
  have qx := hq i σ H p
  by_cases hlt : i < xs.length
  · refine .inr ⟨⟨xs, _, qx, List.getElem?_eq_getElem hlt⟩, Pv (i + 1), fun σ' H' p' => ⟨xs.length - (i + 1), by omega, rfl, hlt, p'⟩, fun v H' y => ?_⟩
    obtain ⟨T, x', rfl, hT, rfl, f1⟩ := y
    exact hs i x' T σ H (f1 xs qx) p hT
  · obtain rfl : i = xs.length := by omega
    exact .inl ⟨⟨xs, qx, Nat.le_refl _⟩, hd σ H p⟩
end RJ

set_option maxRecDepth 100000
set_option maxHeartbeats 2000000
namespace R4
open PySem PySem.Spec PyProof.Rows L2
/-! ### comprehensions with two fors -/
section
variable {J J1 : It} {n n1 : Nat} {G G1 : Hp → Prop} {Y Y1 : Nat → Hp → V → Hp → Prop}
/-- the outer for: Pv by the turn and the heap (the new list at D within) -/
theorem lc2_out (w : Walk J n G Y) {g g1 : TG} {tt tt1 : TT} {wi1 : TI} {te : TE} {vs vs1 : List Nat} {σ : L2.St} {H1 : Hp} {D : Addr} {Qd : Hp → Prop} (Pv : Nat → Hp → Prop) (h0 : Pv 0 (upd H1 D (.lst []))) (hG : ∀ i H, i ≤ n → Pv i H → G H)
    (hs : ∀ i x H H', i < n → Pv i H → Y i H x H' → g x (wipe σ vs) H' fun σ2 H2 => wipe σ2 vs = wipe σ vs ∧ tt σ2 H2 fun b H3 =>
      if b = true then wi1 σ2 H3 fun J1 H4 => ∃ W1 : Nat → Nat → Hp → Prop, (∃ m, W1 0 m H4) ∧ ∀ j k H, W1 j k H →
        (J1.stop j H ∧ Pv (i + 1) H) ∨ (J1.go j H ∧ ∃ Nx1 : Hp → Prop, (∀ H', Nx1 H' → ∃ k', k' < k ∧ W1 (j + 1) k' H') ∧ ∀ x H', J1.yld j H x H' → g1 x (wipe σ2 vs1) H' fun σ3 H5 => wipe σ3 vs1 = wipe σ2 vs1 ∧ tt1 σ3 H5 fun b H6 =>
          if b = true then te σ3 H6 fun y H7 => ∃ acc, H7 D = some (.lst acc) ∧ acc.length < sizeLine ∧ Nx1 (upd H7 D (.lst (acc ++ [y]))) else Nx1 H6)
      else Pv (i + 1) H3) (hd : ∀ H, Pv n H → Qd H) :
    ∃ W : Nat → Nat → Hp → Prop, (∃ m, W 0 m (upd H1 D (.lst []))) ∧ ∀ i m H, W i m H →
      (J.stop i H ∧ Qd H) ∨ (J.go i H ∧ ∃ Nx : Hp → Prop, (∀ H', Nx H' → ∃ m', m' < m ∧ W (i + 1) m' H') ∧ ∀ x H', J.yld i H x H' → g x (wipe σ vs) H' fun σ2 H2 => wipe σ2 vs = wipe σ vs ∧ tt σ2 H2 fun b H3 =>
        if b = true then wi1 σ2 H3 fun J1 H4 => ∃ W1 : Nat → Nat → Hp → Prop, (∃ m, W1 0 m H4) ∧ ∀ j k H, W1 j k H →
          (J1.stop j H ∧ Nx H) ∨ (J1.go j H ∧ ∃ Nx1 : Hp → Prop, (∀ H', Nx1 H' → ∃ k', k' < k ∧ W1 (j + 1) k' H') ∧ ∀ x H', J1.yld j H x H' → g1 x (wipe σ2 vs1) H' fun σ3 H5 => wipe σ3 vs1 = wipe σ2 vs1 ∧ tt1 σ3 H5 fun b H6 =>
            if b = true then te σ3 H6 fun y H7 => ∃ acc, H7 D = some (.lst acc) ∧ acc.length < sizeLine ∧ Nx1 (upd H7 D (.lst (acc ++ [y]))) else Nx1 H6)
        else Nx H3) := by
  refine ⟨fun i m H => m = n - i ∧ i ≤ n ∧ Pv i H, ⟨n, by simp, Nat.zero_le _, h0⟩, ?_⟩
  rintro i m H ⟨rfl, hi, p⟩
  have q := hG i H hi p
  by_cases hlt : i < n
  · refine .inr ⟨w.goes i H hlt q, Pv (i + 1), fun H' p' => ⟨n - (i + 1), by omega, rfl, hlt, p'⟩, fun x H' y => hs i x H H' hlt p (w.yields i H x H' hlt q y)⟩
  · have e : i = n := by omega
    subst e
    exact .inl ⟨w.stops H q, hd H p⟩
/-- the inner for -/
theorem lc2_in (w : Walk J1 n1 G1 Y1) {g1 : TG} {tt1 : TT} {te : TE} {vs1 : List Nat} {σ2 : L2.St} {H4 : Hp} {D : Addr} {Nx : Hp → Prop} (Pv : Nat → Hp → Prop) (h0 : Pv 0 H4) (hG : ∀ j H, j ≤ n1 → Pv j H → G1 H)
    (hs : ∀ j x H H', j < n1 → Pv j H → Y1 j H x H' → g1 x (wipe σ2 vs1) H' fun σ3 H5 => wipe σ3 vs1 = wipe σ2 vs1 ∧ tt1 σ3 H5 fun b H6 =>
      if b = true then te σ3 H6 fun y H7 => ∃ acc, H7 D = some (.lst acc) ∧ acc.length < sizeLine ∧ Pv (j + 1) (upd H7 D (.lst (acc ++ [y]))) else Pv (j + 1) H6) (hd : ∀ H, Pv n1 H → Nx H) :
    ∃ W1 : Nat → Nat → Hp → Prop, (∃ m, W1 0 m H4) ∧ ∀ j k H, W1 j k H →
      (J1.stop j H ∧ Nx H) ∨ (J1.go j H ∧ ∃ Nx1 : Hp → Prop, (∀ H', Nx1 H' → ∃ k', k' < k ∧ W1 (j + 1) k' H') ∧ ∀ x H', J1.yld j H x H' → g1 x (wipe σ2 vs1) H' fun σ3 H5 => wipe σ3 vs1 = wipe σ2 vs1 ∧ tt1 σ3 H5 fun b H6 =>
        if b = true then te σ3 H6 fun y H7 => ∃ acc, H7 D = some (.lst acc) ∧ acc.length < sizeLine ∧ Nx1 (upd H7 D (.lst (acc ++ [y]))) else Nx1 H6) := by
  refine ⟨fun i m H => m = n1 - i ∧ i ≤ n1 ∧ Pv i H, ⟨n1, by simp, Nat.zero_le _, h0⟩, ?_⟩
  rintro i m H ⟨rfl, hi, p⟩
  have q := hG i H hi p
  by_cases hlt : i < n1
  · refine .inr ⟨w.goes i H hlt q, Pv (i + 1), fun H' p' => ⟨n1 - (i + 1), by omega, rfl, hlt, p'⟩, fun x H' y => hs i x H H' hlt p (w.yields i H x H' hlt q y)⟩
  · have e : i = n1 := by omega
    subst e
    exact .inl ⟨w.stops H q, hd H p⟩
end
end R4

set_option maxRecDepth 100000
set_option maxHeartbeats 2000000
namespace RE
open PySem PySem.Spec PyProof.Rows L2 RZ
/-! ### enumerate(tuple) -/
theorem new_enumB {v : Value} {o : Obj} {Hh : Heap → Prop} (B : Begins v o Hh) : Meets (Builtin.«enumerate.__new__» ⟨[.type "enumerate", v], []⟩) (fun _ R s => Hh s.heap ∧
      R (.ok (.ret (.ref (s.heap.push o).objs.size))) { s with heap := (s.heap.push o).push { cls := .type "enumerate", data := .fields #[.none, .bool false, .ref s.heap.objs.size, rawInt 0, .none, .none] } }) :=
  .of_wp fun P w A R s h => by
    obtain ⟨hp, g, d, tk, os⟩ := s; obtain ⟨h1, h⟩ := h
    have hsub := sub_enumerate
    have q1 : ∀ {A' : Around} {E : Value → Shared → Prop} {Q : Value → Shared → Prop}, Q (.ref hp.objs.size) ⟨hp.push o, g, d, tk, os⟩ → wpAny (model P w) A' (pyIter v) Q E ⟨hp, g, d, tk, os⟩ := fun q => B.iter P w _ _ ⟨hp, g, d, tk, os⟩ _ h1 q
    wp_walk using q1
    refine wpAny_stack_any fun st => wpAny_pure ?_
    split
    · rename_i c _ _ _ _ _
      cases (c == Value.type "enumerate") <;> (wp_walk using q1; exact ⟨_, rfl, h⟩)
    · wp_walk using q1
      exact ⟨_, rfl, h⟩
section
variable {P : Program} {w : World} {A : Around} {E : Value → Shared → Prop} {s : Shared}
theorem call_enumT {t : Addr} {its : Array Value} {Q : Value → Shared → Prop} (ht : s.heap.IsTuple t its)
    (h : ∀ h', IsEnum h' (s.heap.objs.size + 1) s.heap.objs.size 0 .none → h'.IsTupleIter s.heap.objs.size t 0 → (∀ b o, s.heap.get? b = some o → h'.get? b = some o) → Q (.ref (s.heap.objs.size + 1)) { s with heap := h' }) :
    wpAny (model P w) A (call (.type "enumerate") [.ref t]) Q E s := by
  refine callType_new F.called_enumerate (by decide) (F.typeCall_enumerate_1 _) (F.newCall_enumerate_1 _) (fun obj => F.args_object_init_2 obj _) F.entry_enumerate_new (new_enumB (begins_tuple t its)) ⟨ht, ?_⟩
  have ez : (s.heap.push { cls := .type "tuple_iterator", data := .fields #[.ref t, .int 0 0] }).objs.size = s.heap.objs.size + 1 := Heap.size_push ..
  show _ ∧ _
  rw [ez]
  have he := Heap.get?_push_size (s.heap.push { cls := .type "tuple_iterator", data := .fields #[.ref t, .int 0 0] }) (o := { cls := .type "enumerate", data := .fields #[.none, .bool false, .ref s.heap.objs.size, rawInt 0, .none, .none] }) rfl
  rw [ez] at he
  exact ⟨⟨_, he, rfl⟩, h _ he ⟨_, Heap.get?_push_of_some _ (Heap.get?_push_size _ rfl), rfl, rfl⟩ fun b o x => Heap.get?_push_of_some _ (Heap.get?_push_of_some _ x)⟩
end
def IteT (K : PySem.W.Frag) (a : Addr) : It :=
  ⟨fun i H => ∃ (xs : List V) (x : V), SqT K H a xs ∧ xs[i]? = some x, fun i H v H' => ∃ T x, v = .ref T ∧ H T = none ∧ H' = upd H T (.tup [.int (i : Nat), x]) ∧ ∀ xs, SqT K H a xs → xs[i]? = some x, fun i H => ∃ xs : List V, SqT K H a xs ∧ xs.length ≤ i⟩
theorem turn_enumT {P : Program} {w : World} {K : PySem.W.Frag} {elts : List Expr} {kk : Nat} {tpos : Pos} (a e it : Addr) :
    Turn P w K (.Tuple elts kk tpos) (IteT K a) [e, it] e (fun i h => (∃ old, IsEnum h e it ((i : Nat) : Int) old) ∧ h.IsTupleIter it a i ∧ e ≠ it) where
  mem := by simp
  obj := fun i h st b hb => by
    obtain ⟨⟨old, he⟩, ⟨o, ho, hc, hd⟩, _⟩ := st
    have eb : b = e ∨ b = it := by simpa using hb
    rcases eb with y | y <;> rw [y]
    · exact ⟨_, he, fun v q => nomatch q⟩
    · exact ⟨o, ho, fun v q => by rw [hd] at q; cases q⟩
  keep := fun i h h' st k => let ⟨⟨old, he⟩, hi, ne⟩ := st; ⟨⟨old, k e (by simp) _ he⟩, hi.at fun o q => k it (by simp) o q, ne⟩
  item := by
    intro X hP hw hK hc i pins s σ H E I hf st hg
    subst hP hw hK
    obtain ⟨⟨old, he⟩, hit, ne⟩ := st
    obtain ⟨xs, x, hq, hx⟩ := hg
    obtain ⟨its, rv, p, hz⟩ := I.tuple hq
    obtain ⟨u, hu, ru⟩ := rv.get hx
    have hel : e < s.heap.objs.size := Heap.lt_size he
    have hil : it < s.heap.objs.size := by obtain ⟨_, q, _⟩ := hit; exact Heap.lt_size q
    have nae : a ≠ e := fun z => by obtain ⟨o, ho, hc2, _⟩ := id p; rw [z, he] at ho; cases ho; exact absurd hc2 (by simp)
    have nai : a ≠ it := fun z => by obtain ⟨o, ho, hc2, _⟩ := id p; obtain ⟨o2, ho2, hc3, _⟩ := id hit; rw [z, ho2] at ho; cases ho; rw [hc3] at hc2; exact absurd hc2 (by simp)
    have hun : its.toArray[i]? = some u := by simpa using hu
    have hlt : i < its.toArray.size := (Array.getElem?_eq_some_iff.mp hun).1
    have hd0 : X.A.in1.handled = none := I.ok.hd hc
    refine wpAny_pyNext_enum_itemD (Draws.tuple hd0 it a nai its.toArray) he ⟨hit, p⟩ hlt ne (by simp [ne, Ne.symm nae]) fun u' h' tk hP2 ho st2 hT hsz hk => ?_
    have eu : u' = u := by rw [hun] at hP2; exact (Option.some.inj hP2).symm
    subst eu
    obtain ⟨hit', _⟩ := st2
    refine ⟨_, rfl, wpAny_letOwnedTupleGo_enum (s := { s with heap := h', toks := tk + 1 }) ho fun h'' he' sb => ?_⟩
    have hT2 : h''.get? s.heap.objs.size = some { cls := .type "tuple", data := .seq #[.int i tk, u'] } := (sb.2 _ (Nat.ne_of_gt hel)).trans hT
    have new : ObjOk X.prog X.w (upd H s.heap.objs.size (.tup [.int (i : Nat), x])) h'' s.heap.objs.size (.tup [.int (i : Nat), x]) := ⟨by show 2 ≤ sizeLine; decide, [.int i tk, u'], .cons ⟨_, rfl⟩ (.cons ru .nil), ⟨_, hT2, rfl, _, rfl⟩⟩
    have I1 : Inv X pins σ (upd H s.heap.objs.size (.tup [.int (i : Nat), x])) { s with heap := h'', toks := tk + 1 } :=
      I.turnedNew (ch := [e, it]) (fun b ob hb q => (sb.2 b (fun z => hb (by simp [z]))).trans (hk b ob (fun z => hb (by simp [z])) (fun z => hb (by simp [z])) q)) hf (Nat.le_refl _) new
    refine ⟨.ref s.heap.objs.size, _, I1, rfl, ⟨_, x, rfl, I.hok.fresh (Nat.le_refl _), rfl, fun ys hy => by rw [I.tuple_inj hy hq]; exact hx⟩, ⟨⟨u', ?_⟩, hit'.at fun o q => (sb.2 it (Ne.symm ne)).trans q, ne⟩, fun b hb => ?_⟩
    · rw [show ((i + 1 : Nat) : Int) = (i : Int) + 1 by omega]; exact he'
    · have eb : b = e ∨ b = it := by simpa using hb
      have hb' : b < s.heap.objs.size := by rcases eb with y | y <;> rw [y] <;> assumption
      rw [upd_ne (Nat.ne_of_lt hb')]; exact (hf b hb).1
  done := by
    intro X hP hw hK hc i pins s σ H E I hf st hg
    subst hP hw hK
    obtain ⟨⟨old, he⟩, hit, ne⟩ := st
    obtain ⟨xs, hq, hx⟩ := hg
    obtain ⟨its, rv, p, hz⟩ := I.tuple hq
    obtain ⟨f0, f1, f2, f3, f4, f5⟩ := hf it (by simp)
    have hl := rv.length
    have hd0 : X.A.in1.handled = none := I.ok.hd hc
    have hend : its.toArray[i]? = none := Array.getElem?_eq_none (by simp; omega)
    have nai : a ≠ it := fun z => by obtain ⟨o, ho, hc2, _⟩ := id p; obtain ⟨o2, ho2, hc3, _⟩ := id hit; rw [z, ho2] at ho; cases ho; rw [hc3] at hc2; exact absurd hc2 (by simp)
    have hT : s.TypeIs (.ref e) "enumerate" := ⟨_, he, rfl⟩
    unfold pyNext
    refine wpAny_bind (wpAny_attempt (wpAny_callSpecial?_slot (name := Str.ofString "__next__") hT F.slot_enumerate_next (wpAny_call_entry F.slot_enumerate_next hT F.entry_enumerate_next ?_ (F.args_enumerate_next_1 _))))
    show wpAny _ _ (field (.ref e) 2 >>= _) _ _ _; refine wpAny_bind (wpAny_field he rfl (x := .ref it) rfl ?_)
    refine wpAny_bind (nextOf_tuple_end hd0 hit p hend fun h' x eb hx' => ?_)
    obtain ⟨o, ho, hc⟩ := hx'
    refine wpAny_bind (wpAny_isInstance (T := "StopIteration") (b := true) ⟨o, ho, hc⟩ isSubtype_stop (wpAny_pure ?_))
    exact ⟨rfl, I.turned (t' := s.toks) (fun b o hb q => eb b o hb q) f0 f1 f3 f4 f5⟩
  self := fun A i s Q E st h => let ⟨⟨_, he⟩, _⟩ := st; wpAny_pyIter_enum he h
def iEnumT (K : PySem.W.Frag) (ta : TA) : TI := fun σ H R => ta σ H fun vs H1 => ∃ a xs, vs = [.ref a] ∧ SqT K H1 a xs ∧ R (IteT K a) H1
theorem pi_enumT {X : Cx} {e : Expr} {ta : TA} {p pos tpos : Pos} {elts : List Expr} {kk : Nat} (hg : Gl X "enumerate") (hm : X.mg "enumerate" = none) (ha : PA X [e] ta) (hs : starEach [e] X.env = [(false, eval e X.env)] := by rfl) :
    PI X (.Tuple elts kk tpos) (.Call (.Name "enumerate" p) [e] [] pos) (iEnumT X.K ta) := by
  refine ⟨fun pins s σ H R I h => Call_ (ld_blt I hg hm boot_enumerate (PyProof.Rows.callWith_type1 (thn (ha.run pos pins s σ H _ I h) fun us s1 ⟨vs, H1, I1, r1, q1⟩ => ?_) hs rfl))⟩
  obtain ⟨a, xs, rfl, hq, q⟩ := q1
  cases r1 with
  | cons r rr =>
    cases rr; cases r
    obtain ⟨its, rv, p', hz⟩ := I1.tuple hq
    refine call_enumT (show s1.heap.IsTuple a its.toArray from p') fun h' he hit hk => wpAny_pyIter_enum he ?_
    have I2 : Inv X pins σ H1 { s1 with heap := h' } := I1.kept (t' := s1.toks) hk
    refine ⟨s1.heap.objs.size + 1, [s1.heap.objs.size + 1, s1.heap.objs.size], _, _, H1, rfl, I2, turn_enumT a (s1.heap.objs.size + 1) s1.heap.objs.size, ⟨⟨.none, he⟩, hit, Nat.succ_ne_self _⟩, fun b hb => ?_, q⟩
    have hle : s1.heap.objs.size ≤ b := by
      have eb : b = s1.heap.objs.size + 1 ∨ b = s1.heap.objs.size := by simpa using hb
      rcases eb with y | y <;> rw [y]
      · exact Nat.le_add_right _ _
      · exact Nat.le_refl _
    exact I1.fpOk hle (I1.hok.fresh hle)
theorem for_enumT {K : PySem.W.Frag} {a : Addr} {xs : List V} {g : TG} {tb : TS} {D : Ends} {σ : L2.St} {H : Hp} (Pv : Nat → L2.St → Hp → Prop) (h0 : Pv 0 σ H) (hq : ∀ i σ H, Pv i σ H → SqT K H a xs)
    (hs : ∀ (i : Nat) (x : V) (T : Addr) (σ : L2.St) (H : Hp), xs[i]? = some x → Pv i σ H → H T = none → g (.ref T) σ (upd H T (.tup [.int (i : Nat), x])) fun σ2 H2 => tb { D with nx := Pv (i + 1), ct := Pv (i + 1), bk := D.nx } σ2 H2) (hd : ∀ σ H, Pv xs.length σ H → D.nx σ H) :
    ∃ W : Nat → Nat → L2.St → Hp → Prop, (∃ m, W 0 m σ H) ∧ ∀ i m σ H, W i m σ H →
      ((IteT K a).stop i H ∧ D.nx σ H) ∨ ((IteT K a).go i H ∧ ∃ N : L2.St → Hp → Prop, (∀ σ' H', N σ' H' → ∃ m', m' < m ∧ W (i + 1) m' σ' H') ∧ ∀ v H', (IteT K a).yld i H v H' → g v σ H' fun σ2 H2 => tb { D with nx := N, ct := N, bk := D.nx } σ2 H2) := by
  refine ⟨fun i m σ H => m = xs.length - i ∧ i ≤ xs.length ∧ Pv i σ H, ⟨xs.length, rfl, Nat.zero_le _, h0⟩, fun i m σ H => ?_⟩
  rintro ⟨rfl, hi, p⟩
  have qx := hq i σ H p
  by_cases hlt : i < xs.length
  · refine .inr ⟨⟨xs, _, qx, List.getElem?_eq_getElem hlt⟩, Pv (i + 1), fun σ' H' p' => ⟨xs.length - (i + 1), by omega, rfl, hlt, p'⟩, fun v H' y => ?_⟩
    obtain ⟨T, x', rfl, hT, rfl, f1⟩ := y
    exact hs i x' T σ H (f1 xs qx) p hT
  · obtain rfl : i = xs.length := by omega
    exact .inl ⟨⟨xs, qx, Nat.le_refl _⟩, hd σ H p⟩
theorem for_enumL {K : PySem.W.Frag} {a : Addr} {xs : List V} {g : TG} {tb : TS} {D : Ends} {σ : L2.St} {H : Hp} (Pv : Nat → L2.St → Hp → Prop) (h0 : Pv 0 σ H) (hq : ∀ i σ H, Pv i σ H → SqL K H a xs)
    (hs : ∀ (i : Nat) (x : V) (T : Addr) (σ : L2.St) (H : Hp), xs[i]? = some x → Pv i σ H → H T = none → g (.ref T) σ (upd H T (.tup [.int (i : Nat), x])) fun σ2 H2 => tb { D with nx := Pv (i + 1), ct := Pv (i + 1), bk := D.nx } σ2 H2) (hd : ∀ σ H, Pv xs.length σ H → D.nx σ H) :
    ∃ W : Nat → Nat → L2.St → Hp → Prop, (∃ m, W 0 m σ H) ∧ ∀ i m σ H, W i m σ H →
      ((Ite K a).stop i H ∧ D.nx σ H) ∨ ((Ite K a).go i H ∧ ∃ N : L2.St → Hp → Prop, (∀ σ' H', N σ' H' → ∃ m', m' < m ∧ W (i + 1) m' σ' H') ∧ ∀ v H', (Ite K a).yld i H v H' → g v σ H' fun σ2 H2 => tb { D with nx := N, ct := N, bk := D.nx } σ2 H2) := by
  refine ⟨fun i m σ H => m = xs.length - i ∧ i ≤ xs.length ∧ Pv i σ H, ⟨xs.length, rfl, Nat.zero_le _, h0⟩, fun i m σ H => ?_⟩
  rintro ⟨rfl, hi, p⟩
  have qx := hq i σ H p
  by_cases hlt : i < xs.length
  · refine .inr ⟨⟨xs, _, qx, List.getElem?_eq_getElem hlt⟩, Pv (i + 1), fun σ' H' p' => ⟨xs.length - (i + 1), by omega, rfl, hlt, p'⟩, fun v H' y => ?_⟩
    obtain ⟨T, x', rfl, hT, rfl, f1⟩ := y
    exact hs i x' T σ H (f1 xs qx) p hT
  · obtain rfl : i = xs.length := by omega
    exact .inl ⟨⟨xs, qx, Nat.le_refl _⟩, hd σ H p⟩
end RE

set_option maxRecDepth 100000
set_option maxHeartbeats 4000000
namespace R7
open PySem PySem.Spec PyProof.Rows L2
/-! ### str.__eq__ asked of an object -/
theorem str_eq_ref (z : Str) (t : Tok) (a : Addr) (o : Obj) (hd : o.data = .plain) :
    Meets (Builtin.«str.__eq__» ⟨[.str z t, .ref a], []⟩) (fun _ R s => s.heap.get? a = some o ∧ R (.ok (.ret .notImplemented)) s) :=
  .of_wp fun prog w A R s h => by
    obtain ⟨hp, g, d, tk, os⟩ := s
    obtain ⟨hl, h⟩ := h
    wp_walk using wpAny_load hl
    rw [hd]
    exact wpAny_pure (wpAny_bind (wpAny_rule (wpAny_pure ⟨_, rfl, h⟩)))
section
variable {prog : Program} {w : World} {A : Around} {E : Value → Shared → Prop} {s : Shared} {K : PySem.W.Frag} {x C f : Addr} {ox : Obj} {od : Option Obj}
theorem sub_str : PySem.W.subIn K (.type "str") (.ref C) = some false := by
  have e : fastBuiltinMro "str" = some [.type "str", .type "object"] := by decide +kernel
  show (fastBuiltinMro "str").map (·.contains (.ref C)) = some false
  rw [e]
  first
    | rfl
    | simp
/-- an instance compared with a text, its own == says NotImplemented -/
theorem rc_ni {z : Str} {t : Tok} {Q : Value → Shared → Prop} (hu : A.units < cLine) (X : K.In s.heap) (I : PySem.W.InstAt s.heap x ox C od) (hs : PySem.W.findIn K (.ref C) "__eq__" = some (some (.ref f))) (hf : PySem.W.isFn K (.ref f) = true)
    (hcall : wpAny (model prog w) A (call (.ref f) [.ref x, .str z t]) (fun v s' => v = .notImplemented ∧ (∃ o, s'.heap.get? x = some o ∧ o.data = .plain) ∧ Q (.bool false) s') E s) :
    wpAny (model prog w) A (richCompare .Eq (.ref x) (.str z t)) Q E s := by
  have one : wpAny (model prog w) A (tryCompare (.ref x) "__eq__" (.str z t)) (fun r s' => r = none ∧ (∃ o, s'.heap.get? x = some o ∧ o.data = .plain) ∧ Q (.bool false) s') E s := by
    unfold tryCompare
    refine wpAny_bind (PySem.W.ifBound_K X I hs hf (wpAny_mono hcall (fun v s' hv => ?_) fun _ _ e => e))
    obtain ⟨rfl, h1, h2⟩ := hv
    exact wpAny_pure ⟨rfl, h1, h2⟩
  have two : ∀ s', (∃ o, s'.heap.get? x = some o ∧ o.data = .plain) → Q (.bool false) s' → wpAny (model prog w) A (tryCompare (.str z t) "__eq__" (.ref x)) (fun r s2 => r = none ∧ Q (.bool false) s2) E s' := fun s' ⟨o, h1, h2⟩ hq =>
    wpAny_tryCompare_declines (typeIs_str s' z t) F.slot_str_eq (call_meets F.slot_str_eq (typeIs_str s' z t) F.entry_str_eq (F.args_str_eq_2 _ _) (str_eq_ref z t x o h2) ⟨h1, rfl, rfl, hq⟩)
  simp only [richCompare, cmpInfo_Eq, oneThing_ref]
  refine wpAny_holding (wpAny_bind (wpAny_cRoomFor hu ?_))
  refine wpAny_bind (I.type.here ?_)
  refine wpAny_bind (wpAny_typeOf (typeIs_str s z t) ?_)
  split
  · refine wpAny_bind ((PySem.W.looks_subIn X sub_str).here ?_)
    simp only [Bool.false_eq_true, if_false, Bool.not_false, if_true]
    refine wpAny_bind (m := tryCompare (.ref x) _ (.str z t)) (wpAny_mono one (fun r s1 y => ?_) fun _ _ e => e)
    obtain ⟨y1, y2, y3⟩ := y
    subst y1
    refine wpAny_bind (m := tryCompare (.str z t) _ (.ref x)) (wpAny_mono (two s1 y2 y3) (fun r s2 y => ?_) fun _ _ e => e)
    obtain ⟨y1, y4⟩ := y
    subst y1
    exact wpAny_bind (wpAny_rule (wpAny_bind (wpAny_of_eq (rfl : isSame (.ref x) (.str z t) = pure false) (wpAny_pure y4))))
  · rename_i q
    exact absurd (by simp) q
end
/-! ### a def that answers NotImplemented -/
/-- what it promises: R says of arguments, the heap and a wish for the heap behind -/
def NiOk (P : Program) (w : World) (K : PySem.W.Frag) (mg : Str → Option Value) (base : Heap) (k : Nat) (f : Addr) (R : List V → Hp → (Hp → Prop) → Prop) : Prop :=
  ∀ (A : Around) (outer : List Env) (s : Shared) (H : Hp) (us : List Value) (vs : List V) (Rh : Hp → Prop), Room k A → Env0 P w K mg base A outer s H → Vals vs us → R vs H Rh →
    codeAny (model P w) A (.call (.ref f) ⟨us, []⟩) (fun r s' => match r with | .ok (.ret u) => u = .notImplemented ∧ CE outer P w H s (fun _ H' => Rh H') .none s' | .ok _ => False | .error _ => False) s
theorem ni_of {P : Program} {w : World} {K : PySem.W.Frag} {mg : Str → Option Value} {base : Heap} {k : Nat} {f : Addr} {name qual : Str} {params : Arguments} {body rest : List Stmt} {scope : Scope} {dV kV doc pm cdv ct oc : Value} {an od : Option Addr}
    {osl : Array (Option Value)} {N ps : List Str} {c : Expr} {p1 p2 p3 : Pos} {R : List V → Hp → (Hp → Prop) → Prop} (lk : K.lookup f = some ⟨oc, od, .func (PySem.W.fnOf name qual params body scope dV kV doc pm an cdv ct), osl⟩) (hcd : PySem.W.codeIn K cdv qual = true) (S : FnScope N ps scope)
    (hbs : body = .If c [.Return (some (.Name "NotImplemented" p1)) p2] [] p3 :: rest) (hb : Binds K (PySem.W.fnOf name qual params body scope dV kV doc pm an cdv ct) ps []) (len : ∀ vs H Rh, R vs H Rh → vs.length = ps.length) (hm : mg "NotImplemented" = none)
    (hgl : ∀ (A : Around) (outer : List Env) (s : Shared) (H : Hp), Gl (cxOf CX0 P w K mg base N qual scope f cdv A outer s H E0).nox "NotImplemented")
    (hc : ∀ (A : Around) (outer : List Env) (s : Shared) (H : Hp) (vs : List V) (Rh : Hp → Prop), Room k (A.deeper (envOfC qual scope s.heap.objs.size f cdv)) → R vs H Rh → ∃ tt, PT (cxOf CX0 P w K mg base N qual scope f cdv A outer s H E0).nox c tt ∧ tt (start N vs) H (fun b H' => b = true ∧ Rh H')) :
    NiOk P w K mg base (k + 1) f R := by
  intro A outer s H us vs Rh hr e0 r hR
  have hl := len _ _ _ hR
  have KX : K.In s.heap := e0.mod.kin.keeps fun b o e => (e0.bs b o e).1
  have lim : s.heap.NoLimit := e0.mod.nolimit.keeps fun b o e => (e0.bs b o e).1
  have hul : us.length = ps.length := by rw [← r.length]; exact hl
  have hbd := hb s us KX (by rw [List.append_nil]; exact hul)
  rw [List.append_nil] at hbd
  have hkind : ∀ y ∈ ps.zip us, scope.names.lookup y.1 = some .local ∨ (scope.names.lookup y.1 = some .cell ∧ ((cellsFrom (s.heap.objs.size + 1) scope.names []).lookup y.1).isSome = true) := fun ⟨n, v⟩ hy => by
    rcases S.par n (List.of_mem_zip hy).1 with q | q
    · exact .inl q
    · exact .inr ⟨q, PySem.W.cellsFrom_some _ _ _ (.inl q)⟩
  refine codeAny_call_function hr.depth (KX _ _ lk) rfl S.co S.gen rfl (PySem.W.codeRec_of KX hcd) (hbd _ _ _ _ ?_)
  refine wpAny_newFunctionEnv_cells S.kind hkind fun env he s1 x => ?_
  subst he
  refine ⟨lim.keeps x.toInCall.keep, codeAny_func ?_⟩
  obtain ⟨tt, ht, hq⟩ := hc A outer s H vs Rh (hr.deeper _) hR
  have I : Inv (cxOf CX0 P w K mg base N qual scope f cdv A outer s H E0) [] (start N vs) H s1 := inv_start S hr.hd e0 hl r x
  rw [hbs]
  have J := I.wish (fun _ _ => False)
  have run : wpAny (model P w) (cxOf CX0 P w K mg base N qual scope f cdv A outer s H E0).nox.A (exec (.If c [.Return (some (.Name "NotImplemented" p1)) p2] [] p3) (cxOf CX0 P w K mg base N qual scope f cdv A outer s H E0).nox.env)
      (fun fl s' => fl = .ret .notImplemented ∧ CE outer P w H s (fun _ H' => Rh H') .none s') (fun _ _ => False) s1 := by
    refine wpAny_If (wpAny_mono (ht.run [] s1 (start N vs) H _ J hq) (fun b s2 hs => ?_) fun _ _ e => e)
    obtain ⟨H1, I1, rfl, q1⟩ := hs
    refine wpAny_execs_cons (wpAny_Return_some (ld_blt I1 (hgl A outer s H) hm (u := .notImplemented) (by decide +kernel) ⟨rfl, .non, H1, I1.os, I1.bare, I1.base, I1.hok, rfl, q1⟩))
  refine wpAny_execs_cons (wpAny_mono run (fun fl s' hs => ?_) fun e s' hs => hs.elim)
  obtain ⟨rfl, h⟩ := hs
  exact ⟨rfl, h⟩
section
variable {X : Cx} {C f : Addr} {k : Nat} {R : List V → Hp → (Hp → Prop) → Prop} {CX : CXT} {fd : FuncData} {ps : List Str} {sp : Sp} {E : XK}
/-- o == text, the own == says NotImplemented -/
def rEqNI (C : Addr) (R : List V → Hp → (Hp → Prop) → Prop) : R2 := fun x y H Q => ∃ a dx fs z, x = .ref a ∧ y = .str z ∧ H a = some (.ins C dx fs) ∧ R [.ref a, .str z] H (fun H' => (∃ dx fs, H' a = some (.ins C dx fs)) ∧ Q (.bl false) H')
theorem op_eqNI (hs : PySem.W.findIn X.K (.ref C) "__eq__" = some (some (.ref f))) (hf : PySem.W.isFn X.K (.ref f) = true) (G : NiOk X.prog X.w X.K X.mg X.base k f R) (hr : Room k X.A) : OpR X (compareOp .Eq) (rEqNI C R) := by
  intro pins s σ H x y v u Q I rx ry h
  obtain ⟨a, dx, fs, z, rfl, rfl, ha, hR⟩ := h
  cases (show v = Value.ref a from rx)
  obtain ⟨t, rfl⟩ := ry
  obtain ⟨mA, J, _⟩ := ins_get I.hok ha
  obtain ⟨od, J, _⟩ := J.look
  show wpAny (model X.prog X.w) X.A (richCompare .Eq (.ref a) (.str z t)) (EP X pins σ Q) X.xe s
  refine rc_ni hr.units0 I.kIn J hs hf (wpAny_call (codeAny_mono (G X.A X.stack s H [.ref a, .str z t] [.ref a, .str z] _ hr I.env0 (.cons rfl (.cons ⟨t, rfl⟩ .nil)) hR) fun r s' hq => ?_))
  cases r with
  | error e => exact False.elim hq
  | ok fl =>
    cases fl with
    | next => exact False.elim hq
    | brk => exact False.elim hq
    | cont => exact False.elim hq
    | ret u =>
      obtain ⟨hu, hq⟩ := hq
      obtain ⟨v, H', I', _, ⟨dx', fs', ha'⟩, q⟩ := I.after hq
      obtain ⟨mA', J', _⟩ := ins_get I'.hok ha'
      obtain ⟨od', J', _⟩ := J'.look
      exact ⟨hu, ⟨_, J'.at_, rfl⟩, .bl false, H', I', rfl, q⟩
/-- o == p, both of the class -/
def rEqOwn (C : Addr) (sp : Sp) (E : XK) : R2 := fun x y H Q => ∃ a dx fs b dy gs, x = .ref a ∧ y = .ref b ∧ H a = some (.ins C dx fs) ∧ H b = some (.ins C dy gs) ∧ sp [.ref a, .ref b] H (fun v H' => ∃ r, v = .bl r ∧ Q (.bl r) H') E
theorem op_eqOwn (F : FnOk X.prog X.w X.K X.mg X.base CX k f fd ps sp) (hs : PySem.W.findIn X.K (.ref C) "__eq__" = some (some (.ref f))) (hf : PySem.W.isFn X.K (.ref f) = true) (hb : Binds X.K fd ps []) (hr : Room k X.A) (hx : Passes CX X E) : OpR X (compareOp .Eq) (rEqOwn C sp E) := by
  intro pins s σ H x y v u Q I rx ry h
  obtain ⟨a, dx, fs, b, dy, gs, rfl, rfl, ha, hb', hsp⟩ := h
  cases (show v = Value.ref a from rx)
  cases (show u = Value.ref b from ry)
  obtain ⟨mA, J, _⟩ := ins_get I.hok ha
  obtain ⟨mB, J', _⟩ := ins_get I.hok hb'
  obtain ⟨od, J, _⟩ := J.look
  obtain ⟨od', J', _⟩ := J'.look
  obtain ⟨m, hF⟩ := I.fr
  show wpAny (model X.prog X.w) X.A (richCompare .Eq (.ref a) (.ref b)) (EP X pins σ Q) X.xe s
  refine PySem.W.cmp_K (op := .Eq) (tb := .ref C) hr.units0 hF I.ok.mod.kin J J'.type (by simp [PySem.W.notFirst]) hs hf ?_
  have hl := F.len _ _ _ _ hsp
  have r2 : Vals [V.ref a, V.ref b] [Value.ref a, Value.ref b] := .cons rfl (.cons rfl .nil)
  refine wpAny_call (codeAny_mono (F.run X.A X.stack s H ⟨[.ref a, .ref b], []⟩ [.ref a, .ref b] [.ref a, .ref b] _ E hr I.env0 (by
    have := hb s [.ref a, .ref b] I.kIn (by simpa using hl)
    simpa using this) r2 hsp) fun r s' hq => ?_)
  cases r with
  | error e => exact hx pins σ H s e s' I hq
  | ok fl =>
    cases fl with
    | ret w =>
      obtain ⟨z, H', I', rz, r, ez, q⟩ := I.after hq
      subst ez
      cases rz
      exact ⟨.bl r, H', I', rfl, q⟩
    | next => exact False.elim hq
    | brk => exact False.elim hq
    | cont => exact False.elim hq
/-- str(o) by an own __str__ -/
def rStrOwn (C : Addr) (sp : Sp) (E : XK) : List V → Hp → VK → Prop := fun xs H Q => ∃ a dx fs, xs = [V.ref a] ∧ H a = some (.ins C dx fs) ∧ sp [.ref a] H (fun v H' => ∃ z, v = .str z ∧ Q (.str z) H') E
theorem call_strOwn (hs : PySem.W.findIn X.K (.ref C) "__str__" = some (some (.ref f))) (hf : PySem.W.isFn X.K (.ref f) = true) (F : FnR X.prog X.w X.K X.mg X.base CX k f sp) (hr : Room (k + 2) X.A) (hx : Passes CX X E) : CallR X (.type "str") (rStrOwn C sp E) := by
  intro pins s σ H xs us Q I r h
  obtain ⟨a, dx, fs, rfl, ha, q⟩ := h
  obtain ⟨u, rfl, ru⟩ := r.one
  cases (show u = Value.ref a from ru)
  obtain ⟨mA, J, _⟩ := ins_get I.hok ha
  obtain ⟨od, J, _⟩ := J.look
  have hr2 : Room k X.A.in1.in1 := (show Room (k + 1) X.A.in1 from Room.in1 hr).in1
  refine PySem.W.kso_call hr2.units0 I.kIn J hs hf (wpAny_mono (wpAny_call (SlX.run_at (us := [.ref a]) (ws := [.ref a]) F hr2 I.env0.in1.in1 hx I (.cons rfl .nil) q)) (fun w s' z => ?_) fun _ _ x => x)
  obtain ⟨z', H', I', rz, i, ei, qz⟩ := z
  subst ei
  obtain ⟨t, e⟩ := (show ∃ t, w = Value.str i t from rz)
  cases e
  exact ⟨.str i, H', I', ⟨t, rfl⟩, qz⟩
end
end R7

set_option maxRecDepth 100000
set_option maxHeartbeats 4000000
/-! == of an instance and a list, the own def says NotImplemented -/
namespace RL
open PySem PySem.Spec PyProof.Rows L2
/-! ### list.__eq__, list.__ne__ asked of an instance -/
section
variable {K : PySem.W.Frag} {C : Addr}
theorem not_lst {prog : Program} {w : World} {A : Around} {E : Value → Shared → Prop} {s : Shared} {x : Addr} {o : Obj} (ho : s.heap.get? x = some o) (hc : o.cls = .ref C) (X : K.In s.heap) (e : PySem.W.subIn K (.ref C) (.type "list") = some false) {Q : Bool → Shared → Prop} (hq : Q false s) :
    wpAny (model prog w) A (isInstance (.ref x) (.type "list")) Q E s := by
  simp only [isInstance]
  refine wpAny_bind (wpAny_typeOf_ref (o := o) ho ?_)
  rw [hc]
  exact (PySem.W.looks_subIn (M := model prog w) X e).here hq
theorem lst_eq_ref (l x : Addr) (o : Obj) (hc : o.cls = .ref C) (e : PySem.W.subIn K (.ref C) (.type "list") = some false) :
    Meets (Builtin.«list.__eq__» ⟨[.ref l, .ref x], []⟩) (fun _ R s => s.heap.get? x = some o ∧ K.In s.heap ∧ R (.ok (.ret .notImplemented)) s) :=
  .of_wp fun prog w A R s h => by
    obtain ⟨hl, X, h⟩ := h
    have hI : ∀ {Q : Bool → Shared → Prop}, Q false s → wpAny (model prog w) A.in1 (isInstance (.ref x) (.type "list")) Q (fun e s' => R (.error e) s') s := fun hq => not_lst hl hc X e hq
    wp_walk using hI
    exact ⟨_, rfl, h⟩
theorem lst_ne_ref (l x : Addr) (o : Obj) (hc : o.cls = .ref C) (e : PySem.W.subIn K (.ref C) (.type "list") = some false) :
    Meets (Builtin.«list.__ne__» ⟨[.ref l, .ref x], []⟩) (fun _ R s => s.heap.get? x = some o ∧ K.In s.heap ∧ R (.ok (.ret .notImplemented)) s) :=
  .of_wp fun prog w A R s h => by
    obtain ⟨hl, X, h⟩ := h
    have hI : ∀ {Q : Bool → Shared → Prop}, Q false s → wpAny (model prog w) A.in1 (isInstance (.ref x) (.type "list")) Q (fun e s' => R (.error e) s') s := fun hq => not_lst hl hc X e hq
    wp_walk using hI
    exact ⟨_, rfl, h⟩
end
section
variable {prog : Program} {w : World} {A : Around} {E : Value → Shared → Prop} {s : Shared} {K : PySem.W.Frag} {x C f l : Addr} {ox : Obj} {od : Option Obj}
theorem sub_lst : PySem.W.subIn K (.type "list") (.ref C) = some false := by
  have e : fastBuiltinMro "list" = some [.type "list", .type "object"] := by decide +kernel
  show (fastBuiltinMro "list").map (·.contains (.ref C)) = some false
  rw [e]
  first
    | rfl
    | simp
theorem same_no {Q : Bool → Shared → Prop} {o o2 : Obj} (h1 : s.heap.get? x = some o) (hc : o.cls = .ref C) (h2 : s.heap.get? l = some o2) (hc2 : o2.cls = .type "list") (hq : Q false s) : wpAny (model prog w) A (isSame (.ref x) (.ref l)) Q E s := by
  have hne : (x == l) = false := by
    refine beq_eq_false_iff_ne.mpr fun e => ?_
    subst e
    rw [h1] at h2; cases h2
    rw [hc] at hc2; cases hc2
  unfold isSame
  simp only [hne, Bool.false_eq_true, if_false]
  refine wpAny_bind (wpAny_load h1 (wpAny_bind (wpAny_load h2 ?_)))
  rw [hc, hc2]
  exact wpAny_pure hq
/-- what stands behind the own def: the instance, the list -/
def Behind (K : PySem.W.Frag) (x l C : Addr) (s' : Shared) : Prop := (∃ o, s'.heap.get? x = some o ∧ o.cls = .ref C) ∧ (∃ o, s'.heap.get? l = some o ∧ o.cls = .type "list") ∧ K.In s'.heap
theorem rc_niL {op : CmpOp} {b : Bool} (hop : (op = .Eq ∧ b = false) ∨ (op = .NotEq ∧ b = true)) {Q : Value → Shared → Prop} (hu : A.units < cLine) (X : K.In s.heap) (I : PySem.W.InstAt s.heap x ox C od) (hT : s.TypeIs (.ref l) "list") (hs : PySem.W.findIn K (.ref C) (cmpInfo op).2.1 = some (some (.ref f))) (hf : PySem.W.isFn K (.ref f) = true) (e : PySem.W.subIn K (.ref C) (.type "list") = some false)
    (hcall : wpAny (model prog w) A (call (.ref f) [.ref x, .ref l]) (fun v s' => v = .notImplemented ∧ Behind K x l C s' ∧ Q (.bool b) s') E s) :
    wpAny (model prog w) A (richCompare op (.ref x) (.ref l)) Q E s := by
  have one : wpAny (model prog w) A (tryCompare (.ref x) (cmpInfo op).2.1 (.ref l)) (fun r s' => r = none ∧ Behind K x l C s' ∧ Q (.bool b) s') E s := by
    unfold tryCompare
    refine wpAny_bind (PySem.W.ifBound_K X I hs hf (wpAny_mono hcall (fun v s' hv => ?_) fun _ _ e => e))
    obtain ⟨rfl, h1, h2⟩ := hv
    exact wpAny_pure ⟨rfl, h1, h2⟩
  have two : ∀ s', Behind K x l C s' → Q (.bool b) s' → wpAny (model prog w) A (tryCompare (.ref l) (cmpInfo op).2.2 (.ref x)) (fun r s2 => r = none ∧ Behind K x l C s2 ∧ Q (.bool b) s2) E s' := fun s' hb hq => by
    obtain ⟨⟨o, h1, h2⟩, ⟨o2, h3, h4⟩, h5⟩ := id hb
    rcases hop with ⟨rfl, _⟩ | ⟨rfl, _⟩
    · exact wpAny_tryCompare_declines ⟨o2, h3, h4⟩ F.slot_list_eq (call_meets F.slot_list_eq ⟨o2, h3, h4⟩ F.entry_list_eq (F.args_list_eq_2 _ _) (lst_eq_ref l x o h2 e) ⟨h1, h5, rfl, rfl, hb, hq⟩)
    · exact wpAny_tryCompare_declines ⟨o2, h3, h4⟩ F.slot_list_ne (call_meets F.slot_list_ne ⟨o2, h3, h4⟩ F.entry_list_ne (F.args_list_ne_2 _ _) (lst_ne_ref l x o h2 e) ⟨h1, h5, rfl, rfl, hb, hq⟩)
  unfold richCompare
  simp only [oneThing_ref]
  refine wpAny_holding (wpAny_bind (wpAny_cRoomFor hu ?_))
  refine wpAny_bind (I.type.here ?_)
  refine wpAny_bind (wpAny_typeOf hT ?_)
  split
  · refine wpAny_bind ((PySem.W.looks_subIn X sub_lst).here ?_)
    simp only [Bool.false_eq_true, if_false, Bool.not_false, if_true]
    refine wpAny_bind (m := tryCompare (.ref x) _ (.ref l)) (wpAny_mono one (fun r s1 y => ?_) fun _ _ e => e)
    obtain ⟨y1, y2, y3⟩ := y
    subst y1
    refine wpAny_bind (m := tryCompare (.ref l) _ (.ref x)) (wpAny_mono (two s1 y2 y3) (fun r s2 y => ?_) fun _ _ e => e)
    obtain ⟨y1, ⟨⟨o, h1, h2⟩, ⟨o2, h3, h4⟩, h5⟩, y4⟩ := y
    subst y1
    rcases hop with ⟨rfl, rfl⟩ | ⟨rfl, rfl⟩
    · exact wpAny_bind (wpAny_rule (wpAny_bind (same_no h1 h2 h3 h4 (wpAny_pure y4))))
    · exact wpAny_bind (wpAny_rule (wpAny_bind (same_no h1 h2 h3 h4 (wpAny_pure y4))))
  · rename_i q
    exact absurd (by simp) q
end
section
variable {X : Cx} {C f : Addr} {k : Nat} {R : List V → Hp → (Hp → Prop) → Prop} {CX : CXT} {fd : FuncData} {ps : List Str} {sp : Sp} {E : XK}
/-- o == list, o != list, the own def says NotImplemented -/
def rNiL (C : Addr) (b : Bool) (R : List V → Hp → (Hp → Prop) → Prop) : R2 := fun x y H Q => ∃ a dx fs l xs, x = .ref a ∧ y = .ref l ∧ H a = some (.ins C dx fs) ∧ H l = some (.lst xs) ∧ R [.ref a, .ref l] H (fun H' => (∃ dx fs, H' a = some (.ins C dx fs)) ∧ (∃ xs, H' l = some (.lst xs)) ∧ Q (.bl b) H')
theorem op_niL {op : CmpOp} {b : Bool} (hop : (op = .Eq ∧ b = false) ∨ (op = .NotEq ∧ b = true)) (hs : PySem.W.findIn X.K (.ref C) (cmpInfo op).2.1 = some (some (.ref f))) (hf : PySem.W.isFn X.K (.ref f) = true) (e : PySem.W.subIn X.K (.ref C) (.type "list") = some false) (G : R7.NiOk X.prog X.w X.K X.mg X.base k f R) (hr : Room k X.A) : OpR X (compareOp op) (rNiL C b R) := by
  intro pins s σ H x y v u Q I rx ry h
  obtain ⟨a, dx, fs, l, xs, rfl, rfl, ha, hl, hR⟩ := h
  cases (show v = Value.ref a from rx)
  cases (show u = Value.ref l from ry)
  obtain ⟨mA, J, _⟩ := ins_get I.hok ha
  obtain ⟨od, J, _⟩ := J.look
  obtain ⟨its, r, ⟨o, n, ho, hc, hd⟩, hz⟩ := I.list (SqL.of hl)
  have main : wpAny (model X.prog X.w) X.A (richCompare op (.ref a) (.ref l)) (EP X pins σ Q) X.xe s := by
    refine rc_niL hop hr.units0 I.kIn J ⟨o, ho, hc⟩ hs hf e (wpAny_call (codeAny_mono (G X.A X.stack s H [.ref a, .ref l] [.ref a, .ref l] _ hr I.env0 (.cons rfl (.cons rfl .nil)) hR) fun r s' hq => ?_))
    cases r with
    | error e => exact False.elim hq
    | ok fl =>
      cases fl with
      | next => exact False.elim hq
      | brk => exact False.elim hq
      | cont => exact False.elim hq
      | ret u =>
        obtain ⟨hu, hq⟩ := hq
        obtain ⟨v, H', I', _, ⟨dx', fs', ha'⟩, ⟨xs', hl'⟩, q⟩ := I.after hq
        obtain ⟨mA', J', _⟩ := ins_get I'.hok ha'
        obtain ⟨od', J', _⟩ := J'.look
        obtain ⟨its', r', ⟨o', n', ho', hc', hd'⟩, hz'⟩ := I'.list (SqL.of hl')
        exact ⟨hu, ⟨⟨_, J'.at_, rfl⟩, ⟨o', ho', hc'⟩, I'.kIn⟩, .bl b, H', I', rfl, q⟩
  rcases hop with ⟨rfl, _⟩ | ⟨rfl, _⟩
  · exact main
  · exact main
end
end RL

set_option maxRecDepth 100000
set_option maxHeartbeats 2000000
/-! o op p, o op= p by an own def of their class -/
namespace RB
open PySem PySem.Spec PyProof.Rows L2
/-- what the class must have: its mro begins with itself, its own def of the name at f -/
structure OpC (K : PySem.W.Frag) (C : Addr) (name : Str) (f : Addr) : Prop where
  cd : ∃ cd rest, PySem.W.clsIn K C = some cd ∧ cd.mro = .ref C :: rest
  at_ : PySem.W.findIn K (.ref C) name = some (some (.ref f))
  fn : PySem.W.typeIn K (.ref f) = some (.type "function")
section
variable {prog : Program} {w : World} {A : Around} {E : Value → Shared → Prop} {s : Shared} {K : PySem.W.Frag} {x y C f : Addr} {ox oy : Obj} {od odd : Option Obj}
theorem mro_own (X : K.In s.heap) {name : Str} (c : OpC K C name f) : ∃ rest, PySem.W.Looks (model prog w) s.heap (mroOf (.ref C)) (.ref C :: rest) := by
  obtain ⟨cd, rest, h1, h2⟩ := c.cd
  refine ⟨rest, ?_⟩
  rw [← h2]
  exact (PySem.W.looks_clsIn X h1).andThen .now
theorem fills_own {nm : String} (X : K.In s.heap) (c : OpC K C (dunder nm) f) {Q : Bool → Shared → Prop} (q : Q true s) : wpAny (model prog w) A (fillsNumberSlot (.ref C) nm) Q E s := by
  obtain ⟨rest, hm⟩ := mro_own (prog := prog) (w := w) X c
  unfold fillsNumberSlot
  refine wpAny_bind (hm.here ?_)
  show wpAny _ _ (List.anyM _ _) _ _ _
  unfold List.anyM
  refine wpAny_bind ?_
  show wpAny _ _ (List.anyM _ [dunder nm, dunderR nm]) _ _ _
  unfold List.anyM
  refine wpAny_bind (wpAny_bind ((PySem.W.looks_findIn X c.at_).here ?_))
  show wpAny _ _ (if (!ownNameWrapper (.ref f) (dunder nm)) = true then _ else _) _ _ _
  rw [if_pos (show (!ownNameWrapper (.ref f) (dunder nm)) = true from rfl)]
  exact wpAny_pure (wpAny_pure (wpAny_pure q))
theorem try_own {name : Str} {o : Value} {Q : Option Value → Shared → Prop} (X : K.In s.heap) (I : PySem.W.InstAt s.heap x ox C od) (c : OpC K C name f)
    (h : wpAny (model prog w) A (call (.ref f) [.ref x, o]) (fun v s' => v ≠ .notImplemented ∧ Q (some v) s') E s) : wpAny (model prog w) A (tryMethod (.ref x) name o) Q E s := by
  unfold tryMethod
  refine wpAny_bind (PySem.W.special_fn X I c.at_ c.fn (wpAny_mono h (fun v s' hv => ?_) fun _ _ z => z))
  obtain ⟨hn, q⟩ := hv
  cases v <;> first | exact absurd rfl hn | exact wpAny_pure q
theorem own_bin1 {nm : String} {Q : Option Value → Shared → Prop} (X : K.In s.heap) (I : PySem.W.InstAt s.heap x ox C od) (J : PySem.W.InstAt s.heap y oy C odd) (c : OpC K C (dunder nm) f)
    (h : wpAny (model prog w) A (call (.ref f) [.ref x, .ref y]) (fun v s' => v ≠ .notImplemented ∧ Q (some v) s') E s) : wpAny (model prog w) A (binaryOp1 nm (.ref x) (.ref y)) Q E s := by
  unfold binaryOp1
  refine wpAny_bind (I.type.here (wpAny_bind (J.type.here (wpAny_bind (fills_own X c ?_)))))
  have e : (Value.ref C == Value.ref C) = true := beq_self_eq_true _
  simp only [e, if_true]
  refine wpAny_bind (wpAny_pure ?_)
  simp only [Bool.and_false, Bool.false_and, Bool.false_eq_true, if_false]
  refine wpAny_bind (wpAny_pure ?_)
  simp only [Bool.false_eq_true, if_false]
  refine wpAny_bind (try_own X I c (wpAny_mono h (fun v s' hv => ⟨hv.1, ?_⟩) fun _ _ z => z))
  exact wpAny_pure hv.2
theorem own_bin {Q : Value → Shared → Prop} {op : Operator} (X : K.In s.heap) (I : PySem.W.InstAt s.heap x ox C od) (J : PySem.W.InstAt s.heap y oy C odd) (c : OpC K C (dunder op.info.2) f)
    (h : wpAny (model prog w) A (call (.ref f) [.ref x, .ref y]) (fun v s' => v ≠ .notImplemented ∧ Q v s') E s) : wpAny (model prog w) A (binaryOp op (.ref x) (.ref y)) Q E s := by
  unfold binaryOp
  refine wpAny_holding ?_
  refine wpAny_bind (own_bin1 X I J c (wpAny_mono h (fun v s' hv => ⟨hv.1, ?_⟩) fun _ _ z => z))
  exact wpAny_pure hv.2
theorem fillsI_own {nm : String} {b : Bool} (X : K.In s.heap) (c : OpC K C (dunderI nm) f) {Q : Bool → Shared → Prop} (q : Q true s) : wpAny (model prog w) A (fillsInplaceSlot (.ref C) nm b) Q E s := by
  obtain ⟨rest, hm⟩ := mro_own (prog := prog) (w := w) X c
  unfold fillsInplaceSlot
  refine wpAny_bind (hm.here ?_)
  show wpAny _ _ (List.anyM _ _) _ _ _
  unfold List.anyM
  refine wpAny_bind (wpAny_bind ((PySem.W.looks_findIn X c.at_).here ?_))
  show wpAny _ _ (if (!ownNameWrapper (.ref f) (dunderI nm)) = true then _ else _) _ _ _
  rw [if_pos (show (!ownNameWrapper (.ref f) (dunderI nm)) = true from rfl)]
  exact wpAny_pure (wpAny_pure q)
theorem own_inp {Q : Value → Shared → Prop} {op : Operator} {o : Value} (X : K.In s.heap) (I : PySem.W.InstAt s.heap x ox C od) (c : OpC K C (dunderI op.info.2) f)
    (h : wpAny (model prog w) A (call (.ref f) [.ref x, o]) (fun v s' => v ≠ .notImplemented ∧ Q v s') E s) : wpAny (model prog w) A (inplaceOp op (.ref x) o) Q E s := by
  unfold inplaceOp
  refine wpAny_holding ?_
  refine wpAny_bind (I.type.here (wpAny_bind (fillsI_own X c ?_)))
  rw [if_pos rfl]
  refine wpAny_bind (try_own X I c (wpAny_mono h (fun v s' hv => ⟨hv.1, ?_⟩) fun _ _ z => z))
  exact wpAny_bind (wpAny_rule (wpAny_pure hv.2))
end
section
variable {X : Cx} {C f : Addr} {k : Nat} {CX : CXT} {fd : FuncData} {ps : List Str} {sp : Sp} {E : XK}
/-- a op b, both instances of the class at C, by its own def, which hands back an instance -/
def rBinO (C : Addr) (sp : Sp) (E : XK) : R2 := fun x y H Q => ∃ a b dx fs dy gs, x = .ref a ∧ y = .ref b ∧ H a = some (.ins C dx fs) ∧ H b = some (.ins C dy gs) ∧ sp [.ref a, .ref b] H (fun v H' => (∃ r, v = .ref r) ∧ Q v H') E
theorem op_binO {op : Operator} (F : FnOk X.prog X.w X.K X.mg X.base CX k f fd ps sp) (c : OpC X.K C (dunder op.info.2) f) (hb : Binds X.K fd ps []) (hr : Room k X.A) (hx : Passes CX X E) : OpR X (binaryOp op) (rBinO C sp E) := by
  intro pins s σ H x y v u Q I rx ry h
  obtain ⟨a, b, dx, fs, dy, gs, rfl, rfl, ha, hb', hsp⟩ := h
  cases (show v = Value.ref a from rx)
  cases (show u = Value.ref b from ry)
  obtain ⟨mA, J, _⟩ := ins_get I.hok ha
  obtain ⟨od, J, _⟩ := J.look
  obtain ⟨mB, J2, _⟩ := ins_get I.hok hb'
  obtain ⟨od2, J2, _⟩ := J2.look
  refine own_bin I.kIn J J2 c (wpAny_mono (run_fn (us := [.ref a, .ref b]) (vs := [.ref a, .ref b]) (ds := []) (dvs := []) F hr hb .nil hx I (.cons rfl (.cons rfl .nil)) hsp) (fun v s' hv => ?_) fun _ _ z => z)
  obtain ⟨z, H', I', rz, ⟨r, rfl⟩, q⟩ := hv
  cases rz
  exact ⟨fun e => (by cases e), .ref r, H', I', rfl, q⟩
theorem ip_binO {op : Operator} (F : FnOk X.prog X.w X.K X.mg X.base CX k f fd ps sp) (c : OpC X.K C (dunderI op.info.2) f) (hb : Binds X.K fd ps []) (hr : Room k X.A) (hx : Passes CX X E) : OpR X (inplaceOp op) (rBinO C sp E) := by
  intro pins s σ H x y v u Q I rx ry h
  obtain ⟨a, b, dx, fs, dy, gs, rfl, rfl, ha, hb', hsp⟩ := h
  cases (show v = Value.ref a from rx)
  cases (show u = Value.ref b from ry)
  obtain ⟨mA, J, _⟩ := ins_get I.hok ha
  obtain ⟨od, J, _⟩ := J.look
  refine own_inp I.kIn J c (wpAny_mono (run_fn (us := [.ref a, .ref b]) (vs := [.ref a, .ref b]) (ds := []) (dvs := []) F hr hb .nil hx I (.cons rfl (.cons rfl .nil)) hsp) (fun v s' hv => ?_) fun _ _ z => z)
  obtain ⟨z, H', I', rz, ⟨r, rfl⟩, q⟩ := hv
  cases rz
  exact ⟨fun e => (by cases e), .ref r, H', I', rfl, q⟩
end
end RB

set_option maxRecDepth 100000
set_option maxHeartbeats 2000000
/-! o op p, o op= p by an own def of their class, what is raised being wished for at the slots -/
namespace RB
open PySem PySem.Spec PyProof.Rows L2
section
variable {X : Cx} {C f : Addr} {k : Nat} {CX : CXT} {fd : FuncData} {ps : List Str} {sp : Sp} {E : L2.St → XK} {l r : Expr} {tl tr : TE} {op : Operator} {pos : Pos}
def tBinO (C : Addr) (sp : Sp) (E : L2.St → XK) (tl tr : TE) : TE := fun σ H Q => tl σ H fun x H1 => tr σ H1 fun y H2 => ∃ a b dx fs dy gs, x = .ref a ∧ y = .ref b ∧ H2 a = some (.ins C dx fs) ∧ H2 b = some (.ins C dy gs) ∧ sp [.ref a, .ref b] H2 (fun v H' => (∃ r, v = .ref r) ∧ Q v H') (E σ)
theorem run_binO {pins : List (Addr × Obj)} {σ : L2.St} {H : Hp} {s : Shared} {Q : VK} {x y : V} {v u : Value} (F : FnOk X.prog X.w X.K X.mg X.base CX k f fd ps sp) (c : OpC X.K C (dunder op.info.2) f) (hb : Binds X.K fd ps []) (hr : Room k X.A) (hx : PassesAt CX X σ (E σ)) (I : Inv X pins σ H s) (rx : RelV x v) (ry : RelV y u)
    (h : ∃ a b dx fs dy gs, x = .ref a ∧ y = .ref b ∧ H a = some (.ins C dx fs) ∧ H b = some (.ins C dy gs) ∧ sp [.ref a, .ref b] H (fun v H' => (∃ r, v = .ref r) ∧ Q v H') (E σ)) : wpAny (model X.prog X.w) X.A (binaryOp op v u) (EP X pins σ Q) X.xe s := by
  obtain ⟨a, b, dx, fs, dy, gs, rfl, rfl, ha, hb', hsp⟩ := h
  cases (show v = Value.ref a from rx)
  cases (show u = Value.ref b from ry)
  obtain ⟨mA, J, _⟩ := ins_get I.hok ha
  obtain ⟨od, J, _⟩ := J.look
  obtain ⟨mB, J2, _⟩ := ins_get I.hok hb'
  obtain ⟨od2, J2, _⟩ := J2.look
  refine own_bin I.kIn J J2 c (wpAny_mono (run_fnSD (us := [.ref a, .ref b]) (vs := [.ref a, .ref b]) (ds := []) (dvs := []) F hr hb .nil hx I (.cons rfl (.cons rfl .nil)) hsp) (fun v s' hv => ?_) fun _ _ z => z)
  obtain ⟨z, H', I', rz, ⟨r, rfl⟩, q⟩ := hv
  cases rz
  exact ⟨fun e => (by cases e), .ref r, H', I', rfl, q⟩
theorem pe_binO (hl : PE X l tl) (hr' : PE X r tr) (F : FnOk X.prog X.w X.K X.mg X.base CX k f fd ps sp) (c : OpC X.K C (dunder op.info.2) f) (hb : Binds X.K fd ps []) (hr : Room k X.A) (hx : ∀ σ, PassesAt CX X σ (E σ)) : PE X (.BinOp l op r pos) (tBinO C sp E tl tr) := by
  refine ⟨fun pins s σ H Q I h => ?_⟩
  exact wpAny_BinOp (binT hl hr' I h fun v u s2 x y H2 I2 rx ry q => run_binO F c hb hr (hx σ) I2 rx ry q)
theorem run_inpO {pins : List (Addr × Obj)} {σ : L2.St} {H : Hp} {s : Shared} {Q : VK} {x y : V} {v u : Value} (F : FnOk X.prog X.w X.K X.mg X.base CX k f fd ps sp) (c : OpC X.K C (dunderI op.info.2) f) (hb : Binds X.K fd ps []) (hr : Room k X.A) (hx : PassesAt CX X σ (E σ)) (I : Inv X pins σ H s) (rx : RelV x v) (ry : RelV y u)
    (h : ∃ a b dx fs, x = .ref a ∧ y = .ref b ∧ H a = some (.ins C dx fs) ∧ sp [.ref a, .ref b] H (fun v H' => (∃ r, v = .ref r) ∧ Q v H') (E σ)) : wpAny (model X.prog X.w) X.A (inplaceOp op v u) (EP X pins σ Q) X.xe s := by
  obtain ⟨a, b, dx, fs, rfl, rfl, ha, hsp⟩ := h
  cases (show v = Value.ref a from rx)
  cases (show u = Value.ref b from ry)
  obtain ⟨mA, J, _⟩ := ins_get I.hok ha
  obtain ⟨od, J, _⟩ := J.look
  refine own_inp I.kIn J c (wpAny_mono (run_fnSD (us := [.ref a, .ref b]) (vs := [.ref a, .ref b]) (ds := []) (dvs := []) F hr hb .nil hx I (.cons rfl (.cons rfl .nil)) hsp) (fun v s' hv => ?_) fun _ _ z => z)
  obtain ⟨z, H', I', rz, ⟨r, rfl⟩, q⟩ := hv
  cases rz
  exact ⟨fun e => (by cases e), .ref r, H', I', rfl, q⟩
/-- name op= e -/
def tAugO (i : Nat) (C : Addr) (sp : Sp) (E : L2.St → XK) (te : TE) : TS := fun D σ H => ∃ x, σ[i]? = some (some x) ∧ te σ H fun y H1 => ∃ a b dx fs, x = .ref a ∧ y = .ref b ∧ H1 a = some (.ins C dx fs) ∧ sp [.ref a, .ref b] H1 (fun v H' => (∃ r, v = .ref r) ∧ D.nx (σ.set i (some v)) H') (E σ)
theorem ps_augO {i : Nat} {x : Str} {e : Expr} {te : TE} {pos' : Pos} (hN : X.N.Nodup) (hi : X.N[i]? = some x) (hx : Loc X.env.scope x) (he : PE X e te) (F : FnOk X.prog X.w X.K X.mg X.base CX k f fd ps sp) (c : OpC X.K C (dunderI op.info.2) f) (hb : Binds X.K fd ps []) (hr : Room k X.A) (hxe : ∀ σ, PassesAt CX X σ (E σ))
    (hf : X.fn x = true ∨ X.env.scope.names.lookup x = some .local := by first | exact .inl rfl | exact .inr rfl | assumption) : PS X (.AugAssign (.Name x pos') op e pos) (tAugO i C sp E te) := by
  refine ⟨fun pins s σ H D I h => ?_⟩
  obtain ⟨v, e1, h⟩ := h
  obtain ⟨m, hn, hl⟩ := I.loc
  have vis : Vis X.env.scope x := by rcases hx with k | k; exact .inl k; exact .inr (.inl k)
  obtain ⟨u, r, l⟩ := hl i x v hi e1 vis
  refine wpAny_AugAssign_Name ?_
  have go : wpAny (model X.prog X.w) X.A (eval e X.env) (fun w s₂ => wpAny (model X.prog X.w) X.A (inplaceOp op u w) (fun r s₃ => wpAny (model X.prog X.w) X.A (storeName X.env x r) (fun _ => SP X pins D .next) X.xe s₃) X.xe s₂) X.xe s := by
    refine thn (he.run pins s σ H _ I h) fun w s1 ⟨y, H1, I1, r1, q1⟩ => ?_
    refine thn (run_inpO (Q := fun v H' => D.nx (σ.set i (some v)) H') F c hb hr (hxe σ) I1 r r1 q1) fun z s2 ⟨zv, H2, I2, r2, q2⟩ => ?_
    exact store_ok I2 hN hi hx r2 (fun s3 I3 => ⟨_, H2, I3, q2⟩) hf
  rcases l with ⟨hk, hm⟩ | ⟨hk, c, hc, hcell⟩
  · exact wpAny_loadName_local I.ok.kind hk hn hm go
  · rcases hk with hk | hk
    · exact wpAny_loadName_cell I.ok.kind hk hc hcell go
    · rcases hx with k | k
      · have : X.env.scope.names.lookup x = some .free := hk
        rw [k] at this; cases this
      · have : X.env.scope.names.lookup x = some .free := hk
        rw [k] at this; cases this
end
end RB

set_option maxRecDepth 100000
set_option maxHeartbeats 2000000
/-! C.m(), m a staticmethod of the class at C without parameters -/
namespace RS
open PySem PySem.Spec PyProof.Rows L2
/-- C.m is a staticmethod: its record at p, its def at g -/
structure CSta (K : PySem.W.Frag) (C : Addr) (mc : Value) (m : Str) (p g : Addr) : Prop where
  at_ : PySem.W.findCls K (.ref C) mc m = some (.get (.builtin "staticmethod.__get__") (.ref p) .none (.ref C))
  rc : ∃ rest, PySem.W.recIn K p "staticmethod" = some (.ref g :: rest)
def tSta (C : Addr) (sp : Sp) (dvs : List V) (E : XK) (ta : TE) : TE := fun σ H Q => ta σ H fun x H1 => x = .ref C ∧ sp dvs H1 Q E
section
variable {X : Cx} {CX : CXT} {k : Nat} {C p g : Addr} {fd : FuncData} {ps : List Str} {ds : List Value} {dvs : List V} {mc : Value} {sp : Sp} {E : XK} {o : Expr} {m : Str} {pos apos : Pos} {ta : TE} {pl : Sem Bool}
theorem pe_smeth0 (he : PE X o ta) (r : ClX.CRead X.K C mc) (c : CSta X.K C mc m p g) (F : FnOk X.prog X.w X.K X.mg X.base CX k g fd ps sp) (hr : Room k X.A) (hk : PySem.W.keepIn X.K (.ref g) = true) (hb : Binds X.K fd ps ds) (hd : Vals dvs ds) (hx : Passes CX X E)
    (ht : eval (.Call (.Attribute o m apos) [] [] pos) X.env = (do
      let ov ← eval o X.env
      standAt apos.atName
      let (f, first) ← holding [ov] (getMethod ov m pl)
      callWith pos f first (backTo pos (starEach [] X.env)) (backToKw pos (keywordEach [] X.env))) := by rfl) :
    PE X (.Call (.Attribute o m apos) [] [] pos) (tSta C sp dvs E ta) := by
  refine ⟨fun pins s σ H Q I h => ?_⟩
  refine PySem.W.methodCall_KW (pl := pl) (thn (he.run pins s σ H _ I h) fun u s1 ⟨x, H1, I1, rx, ex, q⟩ => ?_) ht
  subst ex
  obtain rfl : u = Value.ref C := rx
  obtain ⟨rest, hp⟩ := c.rc
  refine PySem.W.method_cls I1.kIn r.ga (PySem.W.cls_bind I1.kIn r.rd c.at_ (wpAny_call (PySem.W.sm_get (s := { s1 with toks := s1.toks + 1 }) I1.kIn hp (PySem.W.handed_on rfl ?_))))
  have I2 : Inv X pins σ H1 { s1 with toks := s1.toks + 1 } := I1.tok _
  exact PySem.W.callWith_K0 (first := []) I2.kIn hk (run_fn (us := []) (vs := []) F hr hb hd hx I2 .nil q)
end
end RS

set_option maxRecDepth 100000
set_option maxHeartbeats 2000000
/-! in a def called inside an except suite: for over a list, over a tuple; the caught error as an argument -/
namespace RH
open PySem PySem.Spec PyProof.Rows L2 HotX L2H
section
variable {prog : Program} {w : World} {A : Around} {E : Value → Shared → Prop} {s : Shared}
theorem list_end_hot {it l x1 : Addr} {i : Nat} {items : Array Value} {Q : Option Value → Shared → Prop} (hot : HotAt A x1 s.heap)
    (hit : s.heap.IsListIter it l i) (hl : s.heap.IsList l items) (hx : items[i]? = none)
    (hQ : ∀ h', Heap.ExtBut it s.heap h' → Q none { s with heap := h' }) : wpAny (model prog w) A (pyNext (.ref it)) Q E s := by
  obtain ⟨o, ho, hc, hd⟩ := id hit
  obtain ⟨ol, hol, _, nl, hdl⟩ := hl
  obtain ⟨hh, o1, vs1, h1, d1, c1⟩ := hot
  have hne : x1 ≠ it := fun e => by
    subst e
    rw [h1] at ho; cases ho
    rw [d1] at hd; cases hd
    cases c1
  unfold pyNext
  refine wpAny_bind (wpAny_attempt (wpAny_callSpecial?_slot (name := Str.ofString "__next__") hit.typeIs slot_listiter_next
    (wpAny_call_entry slot_listiter_next hit.typeIs entry_listiter_next ?_ (args_listiter_next _))))
  show wpAny _ _ (field (.ref it) 0 >>= _) _ _ s
  refine wpAny_bind (wpAny_field ho hd (x := .ref l) rfl ?_)
  show wpAny _ _ (if (Value.ref l == Value.none) = true then _ else _) _ _ s
  rw [if_neg (show ¬ ((Value.ref l == Value.none) = true) from Bool.false_ne_true)]
  show wpAny _ _ (field (.ref it) 1 >>= _) _ _ s
  refine wpAny_bind (wpAny_field ho hd (x := .int i 0) rfl ?_)
  show wpAny _ _ (seqItems? (.ref l) >>= _) _ _ s
  refine wpAny_bind (wpAny_seqItems hol hdl ?_)
  simp only [Int.toNat_natCast, hx]
  refine wpAny_bind (wpAny_rule (wpAny_bind (wpAny_setField ho hd (by simp) ?_)))
  show wpAny _ _ (newExc (.type "StopIteration") [] >>= _) _ _ _
  refine wpAny_bind ?_
  simp only [newExc, newTuple]
  refine wpAny_bind (wpAny_newObj_type ?_ (by size_fits))
  refine wpAny_bind (m := firstArgMember _ _) (wpAny_of_eq (a := Value.none) (by first | rfl | (simp only [firstArgMember]; rfl)) ?_)
  refine wpAny_newObj_type ?_ (by size_fits)
  refine raiseNew_hot ⟨hh, o1, vs1, Heap.get?_push_of_some _ (Heap.get?_push_of_some _ ((Heap.get?_update_other _ _ (Ne.symm hne)).trans h1)), d1, c1⟩ (Nat.ne_of_lt (Heap.lt_size (Heap.get?_push_of_some _ ((Heap.get?_update_other _ _ (Ne.symm hne)).trans h1)))) (Heap.get?_push_size _ rfl) rfl (by first | (simp; done) | (simp; omega) | (simp only [Array.size_append]; simp; omega)) ?_
  refine wpAny_bind (wpAny_isInstance (T := "StopIteration") (b := true) ⟨_, Heap.get?_update_self _ (Heap.get?_push_size _ rfl) rfl, rfl⟩ isSubtype_stop ?_)
  refine wpAny_pure (hQ _ fun b o' hb e => ?_)
  refine (Heap.get?_update_other _ _ ?_).trans ((((Heap.SameBut.update ..).extBut.push _).push _) b o' hb e)
  exact Nat.ne_of_gt (Heap.lt_size (((Heap.SameBut.update ..).extBut.push _) b o' hb e))
theorem tuple_end_hot {it t x1 : Addr} {i : Nat} {items : Array Value} {Q : Option Value → Shared → Prop} (hot : HotAt A x1 s.heap)
    (hit : s.heap.IsTupleIter it t i) (ht : s.heap.IsTuple t items) (hx : items[i]? = none)
    (hQ : ∀ h', Heap.ExtBut it s.heap h' → Q none { s with heap := h' }) : wpAny (model prog w) A (pyNext (.ref it)) Q E s := by
  obtain ⟨o, ho, hc, hd⟩ := id hit
  obtain ⟨ol, hol, _, nl, hdl⟩ := ht
  obtain ⟨hh, o1, vs1, h1, d1, c1⟩ := hot
  have hne : x1 ≠ it := fun e => by
    subst e
    rw [h1] at ho; cases ho
    rw [d1] at hd; cases hd
    cases c1
  unfold pyNext
  refine wpAny_bind (wpAny_attempt (wpAny_callSpecial?_slot (name := Str.ofString "__next__") hit.typeIs F.slot_tuple_iterator_next
    (wpAny_call_entry F.slot_tuple_iterator_next hit.typeIs F.entry_tuple_iterator_next ?_ (F.args_tuple_iterator_next_1 _))))
  show wpAny _ _ (field (.ref it) 0 >>= _) _ _ s
  refine wpAny_bind (wpAny_field ho hd (x := .ref t) rfl ?_)
  show wpAny _ _ (if (Value.ref t == Value.none) = true then _ else _) _ _ s
  rw [if_neg (show ¬ ((Value.ref t == Value.none) = true) from Bool.false_ne_true)]
  show wpAny _ _ (field (.ref it) 1 >>= _) _ _ s
  refine wpAny_bind (wpAny_field ho hd (x := .int i 0) rfl ?_)
  show wpAny _ _ (seqItems? (.ref t) >>= _) _ _ s
  refine wpAny_bind (wpAny_seqItems hol hdl ?_)
  simp only [Int.toNat_natCast, hx]
  refine wpAny_bind (wpAny_rule (wpAny_bind (wpAny_setField ho hd (by simp) ?_)))
  show wpAny _ _ (newExc (.type "StopIteration") [] >>= _) _ _ _
  refine wpAny_bind ?_
  simp only [newExc, newTuple]
  refine wpAny_bind (wpAny_newObj_type ?_ (by size_fits))
  refine wpAny_bind (m := firstArgMember _ _) (wpAny_of_eq (a := Value.none) (by first | rfl | (simp only [firstArgMember]; rfl)) ?_)
  refine wpAny_newObj_type ?_ (by size_fits)
  refine raiseNew_hot ⟨hh, o1, vs1, Heap.get?_push_of_some _ (Heap.get?_push_of_some _ ((Heap.get?_update_other _ _ (Ne.symm hne)).trans h1)), d1, c1⟩ (Nat.ne_of_lt (Heap.lt_size (Heap.get?_push_of_some _ ((Heap.get?_update_other _ _ (Ne.symm hne)).trans h1)))) (Heap.get?_push_size _ rfl) rfl (by first | (simp; done) | (simp; omega) | (simp only [Array.size_append]; simp; omega)) ?_
  refine wpAny_bind (wpAny_isInstance (T := "StopIteration") (b := true) ⟨_, Heap.get?_update_self _ (Heap.get?_push_size _ rfl) rfl, rfl⟩ isSubtype_stop ?_)
  refine wpAny_pure (hQ _ fun b o' hb e => ?_)
  refine (Heap.get?_update_other _ _ ?_).trans ((((Heap.SameBut.update ..).extBut.push _).push _) b o' hb e)
  exact Nat.ne_of_gt (Heap.lt_size (((Heap.SameBut.update ..).extBut.push _) b o' hb e))
end
theorem turn_listH {P : Program} {w : World} {K : PySem.W.Frag} {tg : Expr} (a it : Addr) : TurnH P w K tg (Itl K a) [it] it (fun i h => h.IsListIter it a i) where
  mem := by simp
  obj := fun i h st b hb => by
    have e : b = it := by simpa using hb
    subst e
    obtain ⟨o, e, c, d⟩ := st
    exact ⟨o, e, fun v z => by rw [d] at z; cases z⟩
  keep := fun i h h' st k => st.at fun o e => k it (by simp) o e
  item := by
    intro X hP hw hK hc i pins s σ H E I hf st hg
    subst hP hw hK
    obtain ⟨xs, x, hq, hx⟩ := hg
    obtain ⟨its, rv, p, hz⟩ := I.list hq
    obtain ⟨u, hu, ru⟩ := rv.get hx
    obtain ⟨f0, f1, f2, f3, f4, f5⟩ := hf it (by simp)
    refine wpAny_pyNext_list_item st p.isList (x := u) (by simpa using hu) fun h' st' sb => ?_
    have I1 : Inv X pins σ H { s with heap := h' } := I.turned (t' := s.toks) (fun b o hb e => (sb.2 b hb).trans e) f0 f1 f3 f4 f5
    obtain ⟨o, e, c, d⟩ := id st'
    exact ⟨u, rfl, go_of (s := { s with heap := h' }) e c d (by decide) ⟨x, H, I1, ru, ⟨rfl, fun ys hy => by rw [I.list_inj hy hq]; exact hx⟩, st', fun b hb => (hf b hb).1⟩⟩
  done := by
    intro X hP hw hK hc i pins s σ H E I hf st hg
    subst hP hw hK
    obtain ⟨xs, hq, hx⟩ := hg
    obtain ⟨its, rv, p, hz⟩ := I.list hq
    obtain ⟨f0, f1, f2, f3, f4, f5⟩ := hf it (by simp)
    have hl := rv.length
    obtain ⟨x1, hot⟩ := hc.at I
    exact list_end_hot hot st p.isList (by simp; omega) fun h' eb => ⟨rfl, I.turned (t' := s.toks) (fun b o hb e => eb b o hb e) f0 f1 f3 f4 f5⟩
  self := fun _ _ _ _ _ st h => wpAny_pyIter_listiter st h
theorem turn_tupleH {P : Program} {w : World} {K : PySem.W.Frag} {tg : Expr} (a it : Addr) : TurnH P w K tg (Itt K a) [it] it (fun i h => h.IsTupleIter it a i) where
  mem := by simp
  obj := fun i h st b hb => by
    have e : b = it := by simpa using hb
    subst e
    obtain ⟨o, e, c, d⟩ := st
    exact ⟨o, e, fun v z => by rw [d] at z; cases z⟩
  keep := fun i h h' st k => st.at fun o e => k it (by simp) o e
  item := by
    intro X hP hw hK hc i pins s σ H E I hf st hg
    subst hP hw hK
    obtain ⟨xs, x, hq, hx⟩ := hg
    obtain ⟨its, rv, p, hz⟩ := I.tuple hq
    obtain ⟨u, hu, ru⟩ := rv.get hx
    obtain ⟨f0, f1, f2, f3, f4, f5⟩ := hf it (by simp)
    refine wpAny_pyNext_tuple_item st (show s.heap.IsTuple a its.toArray from p) (x := u) (by simpa using hu) fun h' st' sb => ?_
    have I1 : Inv X pins σ H { s with heap := h' } := I.turned (t' := s.toks) (fun b o hb e => (sb.2 b hb).trans e) f0 f1 f3 f4 f5
    obtain ⟨o, e, c, d⟩ := id st'
    exact ⟨u, rfl, go_of (s := { s with heap := h' }) e c d (by decide) ⟨x, H, I1, ru, ⟨rfl, fun ys hy => by rw [I.tuple_inj hy hq]; exact hx⟩, st', fun b hb => (hf b hb).1⟩⟩
  done := by
    intro X hP hw hK hc i pins s σ H E I hf st hg
    subst hP hw hK
    obtain ⟨xs, hq, hx⟩ := hg
    obtain ⟨its, rv, p, hz⟩ := I.tuple hq
    obtain ⟨f0, f1, f2, f3, f4, f5⟩ := hf it (by simp)
    have hl := rv.length
    obtain ⟨x1, hot⟩ := hc.at I
    exact tuple_end_hot hot st (show s.heap.IsTuple a its.toArray from p) (by simp; omega) fun h' eb => ⟨rfl, I.turned (t' := s.toks) (fun b o hb e => eb b o hb e) f0 f1 f3 f4 f5⟩
  self := fun _ _ _ _ _ st h => wpAny_pyIter_tupleiter st h
section
variable {X : Cx} {tg : Expr}
theorem pi_listH {l : Expr} {tl : TE} (hl : PE X l tl) : PIH X tg l (iList X.K tl) := by
  refine ⟨fun pins s σ H R I h => ?_⟩
  refine thn (hl.run pins s σ H _ I h) fun v s1 ⟨x, H1, I1, r1, q1⟩ => ?_
  obtain ⟨a, e, ⟨xs, hq⟩, q⟩ := q1
  subst e
  cases r1
  obtain ⟨its, rv, p, hz⟩ := I1.list hq
  refine wpAny_pyIter_list p.isList ?_
  refine ⟨s1.heap.objs.size, [s1.heap.objs.size], _, _, H1, rfl, I1.kept (t' := s1.toks) fun b o e => Heap.get?_push_of_some _ e, turn_listH a _, ⟨_, Heap.get?_push_size _ rfl, rfl, rfl⟩, fun b hb => ?_, q⟩
  have e : b = s1.heap.objs.size := by simpa using hb
  subst e
  exact I1.fpOk (Nat.le_refl _) (I1.hok.fresh (Nat.le_refl _))
theorem pi_tupH {l : Expr} {tl : TE} (hl : PE X l tl) : PIH X tg l (iTup X.K tl) := by
  refine ⟨fun pins s σ H R I h => ?_⟩
  refine thn (hl.run pins s σ H _ I h) fun v s1 ⟨x, H1, I1, r1, q1⟩ => ?_
  obtain ⟨a, e, ⟨xs, hq⟩, q⟩ := q1
  subst e
  cases r1
  obtain ⟨its, rv, p, hz⟩ := I1.tuple hq
  refine wpAny_pyIter_tuple (show s1.heap.IsTuple a its.toArray from p) ?_
  refine ⟨s1.heap.objs.size, [s1.heap.objs.size], _, _, H1, rfl, I1.kept (t' := s1.toks) fun b o e => Heap.get?_push_of_some _ e, turn_tupleH a _, ⟨_, Heap.get?_push_size _ rfl, rfl, rfl⟩, fun b hb => ?_, q⟩
  have e : b = s1.heap.objs.size := by simpa using hb
  subst e
  exact I1.fpOk (Nat.le_refl _) (I1.hok.fresh (Nat.le_refl _))
end
end RH

set_option maxRecDepth 100000
set_option maxHeartbeats 2000000
/-! a def called inside an except suite with the caught error as an argument: its class, its fields -/
namespace RH
section
open PySem PySem.Spec PyProof.Rows L2 PySem.W PySem.Calls
/-! isinstance of a caught error whose own dict stands -/
section
variable {prog : Program} {w : World} {A : Around} {E : Value → Shared → Prop} {s : Shared} {K : Frag} {x D : Addr} {ox : Obj} {od : Option Obj}
theorem find_cls (hc : (clsIn K D).isSome = true) (C : L2.ExcC K D) : findObj K D od "__class__" = some (.bind (.builtin "getset_descriptor.__get__") (.builtin "object.__class__")) := by
  obtain ⟨cd, e⟩ := Option.isSome_iff_exists.mp hc
  unfold findObj
  rw [e, Option.bind_some, C.ha, Option.bind_some]; simp [C.hn, C.ht]
theorem ask_cls {Q : Option Value → Shared → Prop} (C : L2.ExcC K D) (X : K.In s.heap) (I : InstAt s.heap x ox D od) (h : Q (some (.ref D)) { s with toks := s.toks + 1 }) :
    wpAny (model prog w) A (getAttr? (.ref x) "__class__") Q E s := by
  have hf := find_cls (od := od) (by obtain ⟨c0, e0, _⟩ := any_some C.hd; rw [e0]; rfl) C
  obtain ⟨hp, g, dr, tk, os⟩ := s
  have A0 := I.type (M := model prog w); have A1 := looks_findIn (M := model prog w) X C.hg; have A2 := looks_findIn (M := model prog w) X C.hk
  have A3 := looks_find (M := model prog w) X I hf; have A4 : Looks (model prog w) hp (isInstance (.ref x) (.type "BaseException")) true := A0.andThen (looks_subIn X C.hs)
  have b0 : (false && onTheHeap (Value.builtin "BaseException.__getattribute__")) = false := rfl
  have b2 : (Value.builtin "BaseException.__getattribute__" == Value.builtin "object.__getattribute__") = false := by decide +kernel
  have b1 : (onTheHeap (Value.ref D) && Value.builtin "BaseException.__getattribute__" == Value.builtin "object.__getattribute__") = false := by rw [b2]; rfl
  unfold getAttr? getAttrBy? getAttrBy
  refine wpAny_bind (wpAny_mkText (wpAny_bind (wpAny_attempt (wpAny_holding (wpAny_bind (A0.at (wpAny_bind (A1.at ?_))))))))
  show wpAny _ _ (if (onTheHeap (Value.ref D) && Value.builtin "BaseException.__getattribute__" == Value.builtin "object.__getattribute__") = true then _ else _) _ _ _
  rw [b1, if_neg Bool.false_ne_true]; unfold getAttrByItsOwn hookBefore
  refine wpAny_bind ?_; rw [if_pos (show onTheHeap (Value.ref D) = true from rfl)]; refine A2.at ?_
  refine wpAny_bind (wpAny_attempt (wpAny_holding ?_)); unfold callGetattribute; rw [b0, if_neg Bool.false_ne_true]; unfold boundAndCalled
  rw [PySem.F.excAttr_ValueError.ga.bind (.ref x)]; refine wpAny_bind (wpAny_pure ?_)
  show wpAny _ _ (call (.builtin "BaseException.__getattribute__") [.ref x, .str "__class__" tk]) _ _ _
  refine wpAny_call (codeAny_call_builtin PySem.F.excAttr_ValueError.ga.plain PySem.F.entry_bexc_ga ?_)
  refine @check_slot (model prog w) _ _ ⟨hp, g, dr, tk + 1, os⟩ "BaseException.__getattribute__" "BaseException" "__getattribute__" (.ref x) [.str "__class__" tk] [] _ (by decide +kernel) (by decide +kernel) A4 (PySem.F.args_bexc_ga (.ref x) (.str "__class__" tk)) ?_
  unfold Builtin.«object.__getattribute__»; refine wpAny_bind (wpAny_of_eq (a := ((Value.ref x : Value), [Value.str "__class__" tk])) (by first | rfl | (simp only [slotArgs]; rfl)) ?_)
  refine wpAny_bind (wpAny_pure (wpAny_bind (A0.at (wpAny_bind (A3.at ?_)))))
  show wpAny _ _ (holding [Value.builtin "object.__class__"] (call (.builtin "getset_descriptor.__get__") [.builtin "object.__class__", .ref x, .ref D]) >>= ret) _ _ _
  refine wpAny_bind (wpAny_holding (wpAny_call (class_get (s := ⟨hp, g, dr, tk + 1, os⟩) (ox := ox) (od := od) X I C.hm ?_))); refine wpAny_pure ?_
  show wpAny _ _ (handedOut (.ref D)) _ _ _; rw [handedOut_of (v := .ref D) rfl]
  first | exact wpAny_pure (wpAny_pure h) | exact wpAny_pure h | exact wpAny_pure (wpAny_bind (wpAny_pure (wpAny_pure h)))
theorem kit_err (C : L2.ExcC K D) : KitX K (.ref x) (.ref D) (fun h => InstAt h x ox D od) := by
  obtain ⟨cd, hc, _⟩ := any_some C.hd
  refine ⟨fun _ _ _ I => I.type, fun M h X _ => ?_, fun h tp dd its n sl X htp => ?_, fun X I k => ask_cls C X I k⟩
  · unfold clsIn at hc
    split at hc
    · rename_i o1 o2 o3 o4 ho
      intro A' Q' E' s' k q; unfold isType loadHead; exact wpAny_bind (wpAny_loadPart (k _ _ (X _ _ ho)) (wpAny_pure q))
    · cases hc
  · refine Bool.eq_false_iff.mpr fun q => ?_
    have e : D = tp := Value.ref.inj (beq_iff_eq.mp q); subst e
    unfold clsIn at hc
    split at hc
    · rename_i o1 o2 o3 o4 ho
      have z := (X _ _ ho).symm.trans htp; cases z
    · cases hc
end
end
open PySem PySem.Spec PyProof.Rows L2 HotX L2H
structure FnE (P : Program) (w : World) (K : PySem.W.Frag) (mg : Str → Option Value) (base : Heap) (CX : CXT) (k : Nat) (f : Addr) (fd : FuncData) (ps : List Str) (sp : Addr × Obj → Sp) : Prop where
  len : ∀ p vs H Q E, sp p vs H Q E → vs.length = ps.length
  run : ∀ (A : Around) (outer : List Env) (s : Shared) (H : Hp) (args : Args) (us : List Value) (vs : List V) (Q : VK) (E : XK) (p : Addr × Obj), RoomH k A → Hot1 A p → PinOk outer H s p → Env0 P w K mg base A outer s H → BindsTo s fd args (ps.zip us) → Vals vs us → sp p vs H Q E →
    codeAny (model P w) A (.call (.ref f) args) (CR CX outer P w H s Q E) s
theorem fn_ofE {CX : CXT} {P : Program} {w : World} {K : PySem.W.Frag} {mg : Str → Option Value} {base : Heap} {k : Nat} {f : Addr} {name qual : Str} {params : Arguments} {body : List Stmt} {scope : Scope} {dV kV doc pm cdv ct oc : Value} {an od : Option Addr}
    {osl : Array (Option Value)} {N ps : List Str} {sp : Addr × Obj → Sp} (lk : K.lookup f = some ⟨oc, od, .func (PySem.W.fnOf name qual params body scope dV kV doc pm an cdv ct), osl⟩) (hcd : PySem.W.codeIn K cdv qual = true) (S : FnScope N ps scope)
    (len : ∀ p vs H Q E, sp p vs H Q E → vs.length = ps.length)
    (hbody : ∀ (A : Around) (outer : List Env) (s : Shared) (H : Hp) (vs : List V) (Q : VK) (E : XK) (p : Addr × Obj), Hot1 A p → RoomH k (A.deeper (envOfC qual scope s.heap.objs.size f cdv)) → sp p vs H Q E →
      ∃ t, PSs (cxH CX P w K mg base N qual scope f cdv A outer s H E p) body t ∧ t { nx := fun _ H' => Q .non H', rt := Q } (L2.start N vs) H) :
    FnE P w K mg base CX (k + 1) f (PySem.W.fnOf name qual params body scope dV kV doc pm an cdv ct) ps sp := by
  refine ⟨len, fun A outer s H args us vs Q E p hr hot hpin e0 hb r hsp => ?_⟩
  have hl := len _ _ _ _ _ hsp
  have KX : K.In s.heap := e0.mod.kin.keeps fun b o e => (e0.bs b o e).1
  have lim : s.heap.NoLimit := e0.mod.nolimit.keeps fun b o e => (e0.bs b o e).1
  have hkind : ∀ y ∈ ps.zip us, scope.names.lookup y.1 = some .local ∨ (scope.names.lookup y.1 = some .cell ∧ ((cellsFrom (s.heap.objs.size + 1) scope.names []).lookup y.1).isSome = true) := fun ⟨n, v⟩ hy => by
    rcases S.par n (List.of_mem_zip hy).1 with q | q
    · exact .inl q
    · exact .inr ⟨q, PySem.W.cellsFrom_some _ _ _ (.inl q)⟩
  refine codeAny_call_function hr.depth (KX _ _ lk) rfl S.co S.gen rfl (PySem.W.codeRec_of KX hcd) (hb _ _ _ _ ?_)
  refine wpAny_newFunctionEnv_cells S.kind hkind fun env he s1 x => ?_
  subst he
  refine ⟨lim.keeps x.toInCall.keep, codeAny_func ?_⟩
  obtain ⟨t, ht, hq⟩ := hbody A outer s H vs Q E p hot (hr.deeper _) hsp
  have I : Inv (cxH CX P w K mg base N qual scope f cdv A outer s H E p) [] (L2.start N vs) H s1 := inv_startH S hpin e0 hl r x
  refine wpAny_mono (ht.run [] s1 (L2.start N vs) H _ I hq) (fun fl s' hs => ?_) fun e s' hs => hs
  have fin : ∀ {σ' : L2.St} {H' : Hp} {v : V} {u : Value}, Inv (cxH CX P w K mg base N qual scope f cdv A outer s H E p) [] σ' H' s' → RelV v u → Q v H' → CE outer P w H s Q u s' :=
    fun {σ' H' v u} J rv q => ⟨v, H', J.os, J.bare, J.base, J.hok, rv, q⟩
  cases fl with
  | ret u =>
    obtain ⟨v, σ', H', J, rv, q⟩ := hs
    exact fin J rv q
  | next =>
    obtain ⟨σ', H', J, q⟩ := hs
    exact fin (v := V.non) (u := Value.none) J rfl q
  | brk =>
    obtain ⟨_, _, _, q⟩ := hs
    exact False.elim q
  | cont =>
    obtain ⟨_, _, _, q⟩ := hs
    exact False.elim q

section
variable {X : Cx} {CX : CXT} {k : Nat} {f C : Addr} {fd : FuncData} {ps : List Str} {sp : Addr × Obj → Sp} {E : L2.St → XK} {x m : Str} {q pos apos : Pos} {e o : Expr} {es : List Expr} {ta : TE} {t : TA} {p : Addr × Obj}
theorem run_fnE {pins : List (Addr × Obj)} {σ : L2.St} {H : Hp} {s : Shared} {Q : VK} {us : List Value} {vs : List V} (F : FnE X.prog X.w X.K X.mg X.base CX k f fd ps sp) (hr : RoomH k X.A) (hot : Hot1 X.A p) (hp : p ∈ X.pn) (hb : Binds X.K fd ps []) (hx : PassesAt CX X σ (E σ))
    (I : Inv X pins σ H s) (r : Vals vs us) (h : sp p vs H Q (E σ)) : wpAny (model X.prog X.w) X.A (call (.ref f) us) (EP X pins σ Q) X.xe s := by
  have hl : us.length = ps.length := by rw [← r.length]; exact F.len _ _ _ _ _ h
  have b := hb s us I.kIn (by rw [List.append_nil]; exact hl)
  rw [List.append_nil] at b
  have P1 := I.pin p (List.mem_append_left _ hp)
  have hpin : PinOk X.stack H s p := ⟨P1.1, P1.2.1, fun hm => (List.mem_cons.mp (I.stkSub p.1 hm)).elim P1.2.2.1 P1.2.2.2.1, P1.2.2.2.2⟩
  refine wpAny_call (codeAny_mono (F.run X.A X.stack s H ⟨us, []⟩ us vs Q (E σ) p hr hot hpin I.env0 b r h) fun r s' hq => ?_)
  cases r with
  | error e => exact hx pins H s e s' I hq
  | ok fl =>
    cases fl with
    | ret u => exact I.after hq
    | next => exact False.elim hq
    | brk => exact False.elim hq
    | cont => exact False.elim hq
theorem pe_callE (F : FnE X.prog X.w X.K X.mg X.base CX k f fd ps sp) (hr : RoomH k X.A) (hot : Hot1 X.A p) (hp : p ∈ X.pn) (hg : Gl X x) (hm : X.mg x = some (.ref f)) (hk : PySem.W.keepIn X.K (.ref f) = true) (hb : Binds X.K fd ps []) (hx : ∀ σ, PassesAt CX X σ (E σ))
    (ha : PA X (e :: es) t) (hdb : (x == ("__debug__" : Str)) = false := by decide) (he : starEach (e :: es) X.env = (false, eval e X.env) :: starEach es X.env := by rfl) (hpl : (backTo pos (starEach es X.env)).any (·.1) = false := by rfl) :
    PE X (.Call (.Name x q) (e :: es) [] pos) (tCallS (sp p) E t) := by
  refine ⟨fun pins s σ H Q I h => ?_⟩
  refine wpAny_Call_Name_kw (ld_glob I hg hm ?_ hdb)
  refine PySem.W.callWith_K (h₀ := X.base) I.ok.mod.kin hk (thn (ha.run pos pins s σ H _ I h) fun us s1 ⟨vs, H1, I1, r, q⟩ => ⟨I1.kIn, ?_⟩) he hpl
  exact run_fnE F hr hot hp hb (hx σ) I1 r q
end
/-- such a def -/
theorem okE {P : Program} {w : World} {K : PySem.W.Frag} {mg : Str → Option Value} {base : Heap} {x qual : Str} {st : Stmt} {f : Addr} {fd : FuncData} {N ps : List Str} {k : Nat} {sp : Addr × Obj → Sp} (F : Fun K x qual st f fd) (S : FnScope N ps (defScope st)) (hl : ∀ p vs H Q E, sp p vs H Q E → vs.length = ps.length)
    (hb : ∀ (cdv : Value) (A : Around) (outer : List Env) (s : Shared) (H : Hp) (vs : List V) (Q : VK) (E : XK) (p : Addr × Obj), Hot1 A p → RoomH k (A.deeper (envOfC qual (defScope st) s.heap.objs.size f cdv)) → sp p vs H Q E →
      ∃ u, PSs (cxH CX0 P w K mg base N qual (defScope st) f cdv A outer s H E p) (defBody st) u ∧ u { nx := fun _ G => Q .non G, rt := Q } (L2.start N vs) H) : FnE P w K mg base CX0 (k + 1) f fd ps sp := by
  obtain ⟨c1, c2, c3, c4, c5, c6, c7, c8, c9, rfl, lk, hcd⟩ := F.ex
  exact fn_ofE lk hcd S hl fun A outer s H vs Q E p hot hr hsp => hb c7 A outer s H vs Q E p hot hr hsp
theorem FnE.hot {P : Program} {w : World} {K : PySem.W.Frag} {mg : Str → Option Value} {base : Heap} {CX : CXT} {k : Nat} {f : Addr} {fd : FuncData} {ps : List Str} {sp : Sp} (F : FnE P w K mg base CX k f fd ps (fun _ => sp)) : FnH P w K mg base CX k f fd ps sp :=
  ⟨fun vs H Q E h => F.len (0, ⟨.none, none, .cell none, #[]⟩) vs H Q E h, fun A outer s H args us vs Q E p => F.run A outer s H args us vs Q E p⟩
/-- isinstance(e, c), e the handled error at p -/
def rIsP (K : PySem.W.Frag) (p : Addr × Obj) : List V → Hp → VK → Prop := fun xs H Q => ∃ (D : Addr) (c : V) (cv : Value) (b : Bool) (dd : Addr) (fs : List (Str × V)),
  ExcC K D ∧ Zc (.ref D) (some dd) p.2 ∧ xs = [.ref p.1, c] ∧ (∀ u, RelV c u → u = cv) ∧ PySem.W.kitOne K (.ref D) cv = some b ∧ H dd = some (.xd fs) ∧ Q (.bl b) H
theorem call_isP {X : Cx} {p : Addr × Obj} (hp : p ∈ X.pn) (hot : Hot1 X.A p) : CallR X (.builtin "isinstance") (rIsP X.K p) := by
  intro pins s σ H xs us Q I r h
  obtain ⟨D, c, cv, b, dd, fs, C, hz, rfl, hcv, e, ea, q⟩ := h
  obtain ⟨a, oe⟩ := p
  obtain ⟨u1, u2, rfl, r1, r2⟩ := vals2 r
  obtain rfl : u1 = Value.ref a := r1
  have ec := hcv _ r2; subst ec
  obtain ⟨hget, _⟩ := I.pin (a, oe) (List.mem_append_left _ hp)
  obtain ⟨_, vs, hv, _⟩ := hot
  have hx : ObjOk X.prog X.w H s.heap dd (.xd fs) := I.hok dd _ ea
  obtain ⟨mA, hns, hr⟩ := hx
  obtain ⟨od, ho, hl⟩ := lookIn_ns hns
  have J : PySem.W.InstAt s.heap a oe D (some od) := ⟨hget, hz.1, by unfold PySem.W.notCls; rw [show oe.data = _ from hv] <;> rfl, by rw [hz.2]; exact ho⟩
  exact PySem.W.kia_one (kit_err C) I.kIn J e (fun z => nomatch z) fun tk => ⟨.bl b, H, I.kept (t' := tk) fun _ _ z => z, rfl, q⟩
/-- e.f, e the handled error at p -/
def tXp (K : PySem.W.Frag) (p : Addr × Obj) (f : Str) (te : TE) : TE := fun σ H Q => te σ H fun x H1 => x = .ref p.1 ∧ ∃ (C dd : Addr) (fs : List (Str × V)) (v : V), XfC K C ∧ PySem.W.findIn K (.ref C) f = some none ∧ Zc (.ref C) (some dd) p.2 ∧ H1 dd = some (.xd fs) ∧ fs.lookup f = some v ∧ Q v H1
theorem pe_xp {X : Cx} {p : Addr × Obj} {e : Expr} {te : TE} {pos : Pos} {n : Str} (hp : p ∈ X.pn) (hot : Hot1 X.A p) (he : PE X e te) (hb : attributeBase e n X.env (eval e X.env) = eval e X.env := by rfl) : PE X (.Attribute e n pos) (tXp X.K p n te) := by
  refine ⟨fun pins s σ H Q I h => ?_⟩
  refine attr_of hb (thn (he.run pins s σ H _ I h) fun u s1 hh => ?_)
  obtain ⟨x, H1, I1, rx, ex, C, dd, fs, v, T, hno, hz, ea, l, q⟩ := hh
  obtain ⟨a, oe⟩ := p
  subst ex
  obtain rfl : u = Value.ref a := rx
  obtain ⟨ha, _⟩ := I1.pin (a, oe) (List.mem_append_left _ hp)
  obtain ⟨_, vs, hd, _⟩ := hot
  have hx : ObjOk X.prog X.w H1 s1.heap dd (.xd fs) := I1.hok dd _ ea
  obtain ⟨mA, hns, hr⟩ := hx
  obtain ⟨od, ho, hl⟩ := lookIn_ns hns
  obtain ⟨u, hu, ru⟩ := RelO.some_of (v := v) (o := mA n) (by rw [← l]; exact hr n)
  have J : PySem.W.InstAt s1.heap a oe C (some od) := ⟨ha, hz.1, by unfold PySem.W.notCls; rw [show oe.data = _ from hd] <;> rfl, by rw [hz.2]; exact ho⟩
  exact HandSPX.exc_get I1.kIn J T.ga T.gg T.exC (PySem.W.findObj_own T.hdC hno rfl (by rw [hl, hu])) (handed_of ru) ⟨v, H1, I1.tok _, ru, q⟩
end RH

set_option maxRecDepth 100000
set_option maxHeartbeats 2000000
/-! o.m(..), m an own def of the class of o, what is raised being wished for at the slots -/
namespace RD
open PySem PySem.Spec PyProof.Rows L2
section
variable {X : Cx} {CX : CXT} {k : Nat} {f C : Addr} {fd : FuncData} {ps : List Str} {sp : Sp} {E : L2.St → XK} {m : Str} {pos apos : Pos} {e o : Expr} {es : List Expr} {ta : TE} {t : TA} {pl : Sem Bool}
def tMethD (C : Addr) (m : Str) (sp : Sp) (E : L2.St → XK) (ta : TE) (t : TA) : TE := fun σ H Q => ta σ H fun x H1 => ∃ a dx fs, x = .ref a ∧ H1 a = some (.ins C dx fs) ∧ fs.lookup m = none ∧ t σ H1 fun vs H2 => sp (x :: vs) H2 Q (E σ)
theorem pe_methD (ho : PE X o ta) (hc : Cls X.K C) (hm : Meth X.K C m f) (ty : PySem.W.typeIn X.K (.ref f) = some (.type "function")) (F : FnOk X.prog X.w X.K X.mg X.base CX k f fd ps sp) (hr : Room k X.A) (hb : Binds X.K fd ps []) (hx : ∀ σ, PassesAt CX X σ (E σ)) (ha : PA X (e :: es) t)
    (he : starEach (e :: es) X.env = (false, eval e X.env) :: starEach es X.env := by rfl) (hpl : (backTo pos (starEach es X.env)).any (·.1) = false := by rfl)
    (ht : eval (.Call (.Attribute o m apos) (e :: es) [] pos) X.env = (do
      let ov ← eval o X.env
      standAt apos.atName
      let (f, first) ← holding [ov] (getMethod ov m pl)
      callWith pos f first (backTo pos (starEach (e :: es) X.env)) (backToKw pos (keywordEach [] X.env))) := by rfl) :
    PE X (.Call (.Attribute o m apos) (e :: es) [] pos) (tMethD C m sp E ta t) := by
  refine ⟨fun pins s σ H Q I h => ?_⟩
  refine PySem.W.methodCall_KW (pl := pl) (thn (ho.run pins s σ H _ I h) fun u s1 ⟨x, H1, I1, rx, a, dx, fs, ex, hp, hf, q⟩ => ?_) ht
  subst ex
  cases (show u = Value.ref a from rx)
  obtain ⟨mA, J, lk, _⟩ := ins_get I1.hok hp
  obtain ⟨od, J, look⟩ := J.look
  have hmA : mA m = none := by
    have h1 := lk m
    rw [hf] at h1
    cases e1 : mA m with
    | none => rfl
    | some u => rw [e1] at h1; exact h1.elim
  have hg := hc.pg
  unfold PySem.W.plainGet at hg
  rw [Bool.and_eq_true] at hg
  have g1 := eq_of_beq hg.1
  have g2 := eq_of_beq hg.2
  have hs : PySem.W.shadowIn (some od) m = some false := by
    show Option.map _ (PySem.W.lookIn m od) = _
    rw [look m, hmA]; rfl
  refine PySem.W.method_fn I1.kIn J g1 g2 hm.at_ ty hs ?_
  refine PySem.W.callWith_K (h₀ := X.base) I1.ok.mod.kin hm.kp (thn (ha.run pos pins s1 σ H1 _ I1 q) fun us s2 ⟨vs, H2, I2, r, q2⟩ => ⟨I2.kIn, ?_⟩) he hpl
  exact run_fnSD (us := .ref a :: us) (vs := .ref a :: vs) (ds := []) (dvs := []) F hr hb .nil (hx σ) I2 (.cons rfl r) (by rw [List.append_nil]; exact q2)
end
end RD

set_option maxRecDepth 100000
set_option maxHeartbeats 4000000
namespace K34
open PySem PySem.Spec PyProof.Rows L2 PySem.W PySem.Calls
/-! ### heaps -/
theorem same_new {H : Hp} {p : Addr} {o : HO} (h : H p = none) : Same H (upd H p o) := fun b x e => by
  rw [upd_ne (ne_of_none e h)]; exact e
theorem same_at {H H' : Hp} {o : Addr} {x : HO} (s : Same H H') (h : H o = none) : Same H (upd H' o x) := fun b z e => by
  rw [upd_ne (ne_of_none e h)]; exact s b z e
theorem same_new2 {H H' : Hp} {p : Addr} {o : HO} (s : Same H H') (h : H' p = none) : Same H (upd H' p o) := fun b z e => by
  have e2 := s b z e
  rw [upd_ne (ne_of_none e2 h)]; exact e2
theorem map_snoc (rs : List Int) (r : Int) : rs.map V.int ++ [V.int r] = (rs ++ [r]).map V.int := by rw [List.map_append]; rfl
theorem map_snocS (rs : List Str) (r : Str) : rs.map V.str ++ [V.str r] = (rs ++ [r]).map V.str := by rw [List.map_append]; rfl
/-! ### texts as lists -/
abbrev tl (z : Str) : List Nat := z.cps.toList
theorem tl_len (z : Str) : (tl z).length = z.length := by simp [tl, Str.length]
theorem str_eq {a b : Str} (h : tl a = tl b) : a = b := by
  obtain ⟨x⟩ := a; obtain ⟨y⟩ := b
  show (⟨x⟩ : Str) = ⟨y⟩
  congr 1
  apply Array.toList_inj.mp; simpa [tl] using h
theorem str_of {z : Str} {x : Nat} (h : tl z = [x]) : z = ⟨#[x]⟩ := str_eq h
theorem str_mk (z : Str) : z = ⟨(tl z).toArray⟩ := str_eq rfl
theorem tl_add (a b : Str) : tl (a ++ b) = tl a ++ tl b := by
  show (a.cps ++ b.cps).toList = _
  rw [Array.toList_append]
theorem len_add (a b : Str) : (a ++ b).length = a.length + b.length := by
  show (a.cps ++ b.cps).size = _
  rw [Array.size_append]; rfl
theorem lt_one (x y : Nat) : decide ([x] < [y]) = !decide (y ≤ x) := by
  have e : decide ([x] < [y]) = decide (x < y) := by simp [List.cons_lt_cons_iff]
  rw [e]
  by_cases h : y ≤ x
  · rw [decide_eq_true h, decide_eq_false (by omega)]; rfl
  · rw [decide_eq_false h, decide_eq_true (by omega)]; rfl
theorem eqS (a b : Nat) : decide (V.str ⟨#[a]⟩ = V.str ⟨#[b]⟩) = decide (a = b) := by
  refine decide_eq_decide.mpr ⟨fun h => ?_, fun h => by rw [h]⟩
  injection h with h1
  have h2 := congrArg tl h1
  simpa [tl] using h2
theorem eqT (a b : Str) : decide (V.str a = V.str b) = decide (tl a = tl b) := by
  refine decide_eq_decide.mpr ⟨fun h => ?_, fun h => by rw [str_eq h]⟩
  injection h with h1
  rw [h1]
theorem eqI (a b : Int) : decide (V.int a = V.int b) = decide (a = b) := by
  refine decide_eq_decide.mpr ⟨fun h => ?_, fun h => by rw [h]⟩
  injection h
theorem cut_tl (z : Str) (a b : Nat) : tl (cutS z (some (a : Int)) (some (b : Int))) = ((tl z).drop (min a z.length)).take (min b z.length - min a z.length) := by
  unfold cutS tl
  rw [HT.sIx_nat, HT.sIx_nat]
theorem cut_to (z : Str) (b : Nat) : tl (cutS z none (some (b : Int))) = (tl z).take b := by
  unfold cutS tl
  rw [HT.sIx_none, HT.sIx_nat]
  show (z.cps.toList.drop 0).take (min b z.length - 0) = _
  rw [List.drop_zero, Nat.sub_zero]
  by_cases h : b ≤ z.length
  · rw [Nat.min_eq_left h]
  · rw [Nat.min_eq_right (by omega), List.take_of_length_le (by rw [tl_len]; exact Nat.le_refl _), List.take_of_length_le (by rw [tl_len]; omega)]
theorem cut_from (z : Str) (a : Nat) : tl (cutS z (some (a : Int)) none) = (tl z).drop a := by
  unfold cutS tl
  rw [HT.sIx_none, HT.sIx_nat]
  show (z.cps.toList.drop (min a z.length)).take (z.length - min a z.length) = _
  by_cases h : a ≤ z.length
  · rw [Nat.min_eq_left h, List.take_of_length_le (by rw [List.length_drop, tl_len]; exact Nat.le_refl _)]
  · rw [Nat.min_eq_right (by omega), Nat.sub_self, List.take_zero, List.drop_of_length_le (by rw [tl_len]; omega)]
theorem joinL_flat : ∀ ls : List (List Nat), TL.joinL [] ls = ls.flatten
  | [] => rfl
  | [p] => by simp [TL.joinL]
  | p :: q :: r => by
    have h := joinL_flat (q :: r)
    simp only [TL.joinL, List.nil_append, h, List.flatten_cons]
theorem tl_joined {e : Str} (he : tl e = []) (ys : List Str) : tl (Txt.join e ys) = (ys.map tl).flatten := by
  have h1 : TL.tl (Txt.join e ys) = TL.joinL (TL.tl e) (ys.map TL.tl) := by rw [TL.join_eq, TL.tl_join]
  have h2 : TL.tl e = [] := he
  rw [h2, joinL_flat] at h1
  exact h1
/-- texts of one sign each, joined -/
theorem join_ones (cs : List Nat) : tl (Txt.join (Str.ofString "") (cs.map fun c => (⟨#[c]⟩ : Str))) = cs := by
  rw [tl_joined (by decide +kernel), List.map_map]
  induction cs with
  | nil => rfl
  | cons c cs ih => simp only [List.map_cons, List.flatten_cons, ih]; rfl
theorem sum_ones (cs : List Nat) : ((cs.map fun c => (⟨#[c]⟩ : Str)).map (·.length)).sum = cs.length := by
  induction cs with
  | nil => rfl
  | cons c cs ih => simp only [List.map_cons, List.sum_cons, ih, List.length_cons]; show 1 + _ = _; omega
theorem pick {z : Str} {r : Int} (h0 : 0 ≤ r) (h1 : r < (z.length : Int)) : ∃ c, atI z.cps.toList r = some c ∧ c ∈ tl z := by
  have h2 : r.toNat < z.cps.toList.length := by rw [Array.length_toList]; have : z.length = z.cps.size := rfl; omega
  have h3 : ((r.toNat : Nat) : Int) = r := by omega
  have h4 := atI_nat (List.getElem?_eq_getElem h2)
  rw [h3] at h4
  exact ⟨_, h4, List.getElem_mem h2⟩
theorem cutV_nat (xs : List V) {a b : Nat} (hab : a ≤ b) (hb : b ≤ xs.length) : cutV xs (some (a : Int)) (some (b : Int)) = (xs.drop a).take (b - a) := by
  unfold cutV
  rw [HT.sIx_nat, HT.sIx_nat, Nat.min_eq_left hb, Nat.min_eq_left (Nat.le_trans hab hb)]
def isL (x : Nat) : Bool := decide (97 ≤ x) && decide (x ≤ 122)
def letters : Str := Str.ofString "abcdefghijklmnopqrstuvwxyz"
theorem letters_L : ∀ c ∈ tl letters, isL c = true := by decide +kernel
theorem letters_len : letters.length = 26 := by decide +kernel
/-! the text -/
def topS (i : Nat) : Stmt := PySem.Challenge.pw_laidforall_k34_galleys.main.body.getD i (.Pass ⟨0, 0, 0, 0⟩)
abbrev sTooI : Stmt := inClass (topS 2) 0
abbrev sNoNI : Stmt := inClass (topS 3) 0
abbrev sPieces : Stmt := topS 7
abbrev sFigures : Stmt := topS 8
abbrev sOwners : Stmt := topS 9
abbrev sSizes : Stmt := topS 10
abbrev sInit : Stmt := inClass (topS 11) 0
abbrev sLen : Stmt := inClass (topS 11) 1
abbrev sIter : Stmt := inClass (topS 11) 2
abbrev sEq : Stmt := inClass (topS 11) 3
abbrev sAdd : Stmt := inClass (topS 11) 4
abbrev sIadd : Stmt := inClass (topS 11) 5
abbrev sPcs : Stmt := inClass (topS 11) 6
abbrev sFigs : Stmt := inClass (topS 11) 7
abbrev sBlock : Stmt := inClass (topS 11) 8
abbrev sCell : Stmt := topS 13
abbrev sRow : Stmt := topS 14
abbrev sNumber : Stmt := topS 15
abbrev sSame : Stmt := topS 16
abbrev sPiece : Stmt := topS 17
abbrev sBlocks : Stmt := topS 18
abbrev sFrom : Stmt := topS 19
abbrev sDue : Stmt := topS 20
abbrev sRefused : Stmt := topS 21
abbrev sSumRef : Stmt := topS 22
abbrev sAdded : Stmt := topS 23
abbrev sNoPiece : Stmt := topS 24
abbrev sEqual : Stmt := topS 25
abbrev sShows : Stmt := topS 26
abbrev sCopied : Stmt := topS 27
abbrev sNext : Stmt := topS 28
abbrev sNear : Stmt := topS 29
abbrev sJoins : Stmt := topS 30
abbrev sLaw : Stmt := topS 31
structure Blt (mg : Str → Option Value) : Prop where
  len : mg "len" = none
  int : mg "int" = none
  str : mg "str" = none
  bool : mg "bool" = none
  tuple : mg "tuple" = none
  list : mg "list" = none
  range : mg "range" = none
  isi : mg "isinstance" = none
  iter : mg "iter" = none
  min : mg "min" = none
  max : mg "max" = none
  enumerate : mg "enumerate" = none
  ve : mg "ValueError" = none
  NotImplemented : mg "NotImplemented" = none
section
variable {P : Program} {w : World} {K : PySem.W.Frag} {mg : Str → Option Value} {base : Heap}
/-! ### _law_cell -/
def spCell (K : PySem.W.Frag) : Sp := fun vs H Q _ => ∃ (a : Addr) (ns : List Int) (k : Int), vs = [.ref a, .int k] ∧ SqL K H a (ns.map V.int) ∧ ns.length ≤ 63 ∧ 0 ≤ k ∧ ∀ c, Q (.int c) H
theorem scCell : FnScope ["_law_script", "_law_k"] ["_law_script", "_law_k"] (defScope sCell) := ⟨rfl, rfl, rfl, by decide +kernel, rfl, by decide +kernel, by decide +kernel⟩
theorem ok_cell {f : Addr} {fd : FuncData} (B : Blt mg) (F : Fun K "_law_cell" "_law_cell" sCell f fd) : FnOk P w K mg base CX0 1 f fd ["_law_script", "_law_k"] (spCell K) := by
  refine F.ok scCell (fun vs H Q E h => ?_) (fun cdv A outer s H vs Q E hr h => ?_)
  · obtain ⟨a, ns, k, rfl, _⟩ := h; rfl
  · obtain ⟨a, ns, k, rfl, hS, hlen, h0, q⟩ := h
    refine ⟨_, pss_cons (ps_if (pt_cmpR op_lt (pv 1) (pe_callB call_len (by rfl) B.len PySem.boot_len (pa_cons (pv 0) pa_nil)) (nomark _)) (pss_one (ps_ret (pe_callTy call_int1 (by rfl) B.int (by decide +kernel) (pa_cons (pe_ix ix_list (pv 0) (pv 1) (fun _ _ => rfl)) pa_nil)))) pss_nil)
      (pss_one (ps_ret pe_int)), ?_⟩
    refine ⟨.int k, rfl, .ref a, rfl, .ref a, (ns.map V.int).length, rfl, .inl ⟨_, hS, rfl⟩, k, _, rfl, rfl, _, rfl, ite2 (fun hk => ?_) (fun _ => ?_)⟩
    · have hk' : k < ((ns.map V.int).length : Int) := of_decide_eq_true hk
      rw [List.length_map] at hk'
      have hlt : k.toNat < ns.length := by omega
      exact ⟨.ref a, rfl, .int k, rfl, a, _, k, .int (ns[k.toNat]'hlt), rfl, rfl, hS, at_of (j := k.toNat) (by omega) (by rw [List.getElem?_map]; simp [hlt]), .inl ⟨_, rfl, q _⟩⟩
    · exact q _
/-! ### _law_row -/
theorem map_snoc' (rs : List Int) (r : Int) : rs.map V.int ++ [V.int r] = (rs ++ [r]).map V.int := by rw [List.map_append]; rfl
def RowOf (ls rs : List Int) : Prop := rs.length = ls.length ∧ ∀ (i : Nat) (l : Int), ls[i]? = some l → ∃ r, rs[i]? = some r ∧ 0 ≤ r ∧ r < l
def spRow (K : PySem.W.Frag) : Sp := fun vs H Q _ => ∃ (c : Int) (a : Addr) (ls : List Int), vs = [.int c, .ref a] ∧ SqL K H a (ls.map V.int) ∧ ls.length ≤ 1000 ∧ (∀ l ∈ ls, 0 < l ∧ l < 1000000) ∧
  ∀ H' p rs, Same H H' → H p = none → H' p = some (.lst (rs.map V.int)) → RowOf ls rs → Q (.ref p) H'
theorem scRow : FnScope ["_law_cell_here", "_law_limits", "_law_row_here", "_law_rest", "_law_limit", "_law_k", "_law_mixed"] ["_law_cell_here", "_law_limits"] (defScope sRow) := ⟨rfl, rfl, rfl, by decide +kernel, rfl, by decide +kernel, by decide +kernel⟩
theorem ok_row {f : Addr} {fd : FuncData} (B : Blt mg) (F : Fun K "_law_row" "_law_row" sRow f fd) : FnOk P w K mg base CX0 1 f fd ["_law_cell_here", "_law_limits"] (spRow K) := by
  refine F.ok scRow (fun vs H Q E h => ?_) (fun cdv A outer s H vs Q E hr h => ?_)
  · obtain ⟨c, a, ls, rfl, _⟩ := h; rfl
  · obtain ⟨c, a, ls, rfl, hS, hlen, hpos, q⟩ := h
    refine ⟨_, (pss_cons (ps_set (i := 2) scRow.nd rfl (.inl rfl) (pe_lst pa_nil))
      (pss_cons (ps_if (pt_cmpR op_ge (pv 0) pe_int (nomark _))
      (pss_cons (ps_set (i := 3) scRow.nd rfl (.inl rfl) (pe_op op_sub (pv 0) pe_int))
       (pss_cons (ps_for (PassesOwn.never) rfl (pi_list (pv 1)) (pg_name (i := 4) scRow.nd rfl (.inl rfl))
       (pss_cons (ps_expr (pe_bm PySem.F.plainAttrs_list PySem.F.slot_list_append PySem.F.type_list_append mt_append (pv 2) (pa_cons (pe_op op_modN (pe_callTy call_int1 (by rfl) B.int (by decide +kernel) (pa_cons (pv 3) pa_nil)) (pv 4)) pa_nil)))
        (pss_one (ps_set (i := 3) scRow.nd rfl (.inl rfl) (pe_op op_fdivN (pv 3) (pv 4))))))
       (pss_one (ps_ret (pv 2)))))
      pss_nil)
      (pss_cons (ps_for (PassesOwn.never) rfl (pi_range1 (by rfl) B.range (pa_cons (pe_callB call_len (by rfl) B.len PySem.boot_len (pa_cons (pv 1) pa_nil)) pa_nil)) (pg_name (i := 5) scRow.nd rfl (.inl rfl))
      (pss_cons (ps_set (i := 6) scRow.nd rfl (.inl rfl) (pe_op op_modN (pe_callTy call_int1 (by rfl) B.int (by decide +kernel) (pa_cons (pe_op op_add (pe_op op_add (pe_op op_mul (pv 0) pe_int) (pe_op op_mul (pv 5) pe_int)) pe_int) pa_nil)) pe_int))
       (pss_cons (ps_set (i := 6) scRow.nd rfl (.inl rfl) (pe_op op_modN (pe_callTy call_int1 (by rfl) B.int (by decide +kernel) (pa_cons (pe_op op_add (pe_op op_add (pe_op op_mul (pv 6) (pe_op op_add pe_int (pe_op op_mul pe_int (pv 5)))) (pe_op op_mul (pe_op op_mul (pv 5) (pv 5)) pe_int)) pe_int) pa_nil)) pe_int))
       (pss_one (ps_expr (pe_bm PySem.F.plainAttrs_list PySem.F.slot_list_append PySem.F.type_list_append mt_append (pv 2) (pa_cons (pe_op op_modN (pe_callTy call_int1 (by rfl) B.int (by decide +kernel) (pa_cons (pe_op op_fdivN (pv 6) pe_int) pa_nil)) (pe_ix ix_list (pv 1) (pv 5) (fun _ _ => rfl))) pa_nil)))))))
      (pss_one (ps_ret (pv 2)))))), ?_⟩
    refine ⟨Nat.zero_le _, fun o no => ?_⟩
    have s1 : Same H (upd H o (.lst [])) := same_new no
    have eo : (upd H o (.lst [])) o = some (.lst (([] : List Int).map V.int)) := upd_same
    generalize upd H o (.lst []) = H1 at s1 eo ⊢
    have more : ∀ (n : Nat) (rs : List Int) (l : Int), ls[n]? = some l → rs.length = n → (∀ (i : Nat) (l : Int), i < n → ls[i]? = some l → ∃ r, rs[i]? = some r ∧ 0 ≤ r ∧ r < l) → ∀ x : Int, ∀ (i : Nat) (m : Int), i < n + 1 → ls[i]? = some m → ∃ r, (rs ++ [x.fmod l])[i]? = some r ∧ 0 ≤ r ∧ r < m := by
      intro n rs l hl hrs hrow x i m hi hm
      have hp := hpos l (List.mem_of_getElem? hl)
      by_cases hin : i < n
      · obtain ⟨r, h1, h2, h3⟩ := hrow i m hin hm
        exact ⟨r, by rw [List.getElem?_append_left (by omega)]; exact h1, h2, h3⟩
      · obtain rfl : i = n := by omega
        rw [hl] at hm; cases hm
        exact ⟨_, by rw [List.getElem?_append_right (by omega), hrs, Nat.sub_self]; rfl, Int.fmod_nonneg_of_pos _ hp.1, Int.fmod_lt_of_pos _ hp.1⟩
    refine ⟨.int c, rfl, c, 1000000000000000000, rfl, rfl, _, rfl, ite2 (fun _ => ?_) (fun _ => ?_)⟩
    · refine ⟨.int c, rfl, c, 1000000000000000000, rfl, rfl, .ref a, rfl, a, rfl, ⟨_, s1.seq hS⟩, for_list (K := K) (a := a) (xs := ls.map V.int) (fun n σ H' => ∃ (rest : Int) (y4 y5 y6 : Option V) (rs : List Int), σ = [some (.int c), some (.ref a), some (.ref o), some (.int rest), y4, y5, y6] ∧ Same H H' ∧ H' o = some (.lst (rs.map V.int)) ∧ rs.length = n ∧
        ∀ (i : Nat) (l : Int), i < n → ls[i]? = some l → ∃ r, rs[i]? = some r ∧ 0 ≤ r ∧ r < l) ⟨_, none, none, none, [], rfl, s1, eo, rfl, fun i l h => absurd h (Nat.not_lt_zero i)⟩ (fun n σ H' _ ⟨_, _, _, _, _, _, sm, _⟩ => sm.seq hS) ?_ ?_⟩
      · rintro n x σ H' hn ⟨rest, y4, y5, y6, rs, rfl, sm, ho, hl, hrow⟩
        rw [List.getElem?_map] at hn
        cases en : ls[n]? with
        | none => rw [en] at hn; cases hn
        | some l =>
        rw [en] at hn; cases hn
        have hp := hpos l (List.mem_of_getElem? en)
        have hlt := (List.getElem?_eq_some_iff.mp en).1
        have hsz : (rs.map V.int).length < sizeLine := by rw [List.length_map]; exact small1000 (by omega)
        refine ⟨.ref o, rfl, .inl ⟨rfl, _, SqL.of ho⟩, .int rest, rfl, .inl ⟨rest, rfl, .int l, rfl, rest, l, rfl, rfl, by omega, o, _, _, rfl, rfl, ho, hsz, ?_⟩⟩
        refine ⟨.int rest, rfl, .int l, rfl, rest, l, rfl, rfl, ⟨by omega, by omega⟩, ?_⟩
        exact ⟨_, _, _, _, _, rfl, same_at sm no, by rw [upd_same, map_snoc'], by rw [List.length_append, hl]; rfl, more n rs l en hl hrow rest⟩
      · rintro σ H' ⟨rest, y4, y5, y6, rs, rfl, sm, ho, hl, hrow⟩
        rw [List.length_map] at hl hrow
        exact ⟨.ref o, rfl, q H' o rs sm no ho ⟨hl, fun i l hli => hrow i l (List.getElem?_eq_some_iff.mp hli).1 hli⟩⟩
    · refine ⟨.ref a, rfl, .ref a, (ls.map V.int).length, rfl, .inl ⟨_, s1.seq hS, rfl⟩, ((ls.map V.int).length : Int), rfl, by omega, by rw [List.length_map]; omega, ?_⟩
      rw [Int.toNat_natCast, List.length_map]
      refine for_range (lo := 0) (n := ls.length) (fun n σ H' => ∃ (y3 y4 y5 y6 : Option V) (rs : List Int), σ = [some (.int c), some (.ref a), some (.ref o), y3, y4, y5, y6] ∧ Same H H' ∧ H' o = some (.lst (rs.map V.int)) ∧ rs.length = n ∧
        ∀ (i : Nat) (l : Int), i < n → ls[i]? = some l → ∃ r, rs[i]? = some r ∧ 0 ≤ r ∧ r < l) ⟨none, none, none, none, [], rfl, s1, eo, rfl, fun i l h => absurd h (Nat.not_lt_zero i)⟩ ?_ ?_
      · rintro n σ H' hn ⟨y3, y4, y5, y6, rs, rfl, sm, ho, hl, hrow⟩
        have e0 : (0 : Int) + (n : Int) = (n : Int) := by omega
        rw [e0]
        have hSn : SqL K H' a (ls.map V.int) := sm.seq hS
        have en : ls[n]? = some (ls[n]'hn) := by simp [hn]
        have hat : (ls.map V.int)[n]? = some (.int (ls[n]'hn)) := by rw [List.getElem?_map, en]; rfl
        have hp := hpos (ls[n]'hn) (List.getElem_mem hn)
        have hsz : (rs.map V.int).length < sizeLine := by rw [List.length_map]; exact small1000 (by omega)
        refine ⟨.int c, rfl, c, 48271, rfl, rfl, .inr ⟨by decide, by decide⟩, .int (n : Int), rfl, (n : Int), 69621, rfl, rfl, .inr ⟨by decide, by decide⟩, _, _, rfl, rfl, _, 11, rfl, rfl, .inl ⟨_, rfl, _, 2147483647, rfl, rfl, (show (2147483647 : Int) ≠ 0 by decide), ?_⟩⟩
        have hm0 : 0 ≤ (c * 48271 + (n : Int) * 69621 + 11).fmod 2147483647 := Int.fmod_nonneg_of_pos _ (by decide)
        have hm1 : (c * 48271 + (n : Int) * 69621 + 11).fmod 2147483647 < 2147483647 := Int.fmod_lt_of_pos _ (by decide)
        refine ⟨_, rfl, .int (n : Int), rfl, 2, (n : Int), rfl, rfl, .inl ⟨by decide, by decide⟩, 16807, _, rfl, rfl, (c * 48271 + (n : Int) * 69621 + 11).fmod 2147483647, _, rfl, rfl, .inl ⟨Int.lt_of_lt_of_le (by decide) hm0, Int.lt_trans hm1 (by decide)⟩, .int (n : Int), rfl, .int (n : Int), rfl, (n : Int), (n : Int), rfl, rfl, .inl ⟨by omega, by omega⟩, _, 40692, rfl, rfl, .inr ⟨by decide, by decide⟩, _, _, rfl, rfl, _, 7, rfl, rfl, .inl ⟨_, rfl, _, 2147483399, rfl, rfl, (show (2147483399 : Int) ≠ 0 by decide), ?_⟩⟩
        refine ⟨.ref o, rfl, .inl ⟨rfl, _, SqL.of ho⟩, _, rfl, _, 31, rfl, rfl, ⟨by decide, by decide⟩, .inl ⟨_, rfl, .ref a, rfl, .int (n : Int), rfl, a, _, (n : Int), .int (ls[n]'hn), rfl, rfl, hSn, atI_nat hat, _, ls[n]'hn, rfl, rfl, by omega, o, _, _, rfl, rfl, ho, hsz, ?_⟩⟩
        exact ⟨_, _, _, _, _, rfl, same_at sm no, by rw [upd_same, map_snoc'], by rw [List.length_append, hl]; rfl, more n rs _ en hl hrow _⟩
      · rintro σ H' ⟨y3, y4, y5, y6, rs, rfl, sm, ho, hl, hrow⟩
        exact ⟨.ref o, rfl, q H' o rs sm no ho ⟨hl, fun i l hli => hrow i l (List.getElem?_eq_some_iff.mp hli).1 hli⟩⟩
end
end K34

set_option maxRecDepth 100000
set_option maxHeartbeats 8000000
namespace K34
open PySem PySem.Spec PyProof.Rows L2
section
variable {P : Program} {w : World} {K : PySem.W.Frag} {mg : Str → Option Value} {base : Heap}
/-! ### _law_number, _law_same -/
def spNumber : Sp := fun vs H Q _ => ∃ i : Int, vs = [.int i] ∧ Q (.bl true) H
theorem scNumber : FnScope ["_law_value"] ["_law_value"] (defScope sNumber) := ⟨rfl, rfl, rfl, by decide +kernel, rfl, by decide +kernel, by decide +kernel⟩
theorem ok_number {f : Addr} {fd : FuncData} (B : Blt mg) (F : Fun K "_law_number" "_law_number" sNumber f fd) : FnOk P w K mg base CX0 1 f fd ["_law_value"] spNumber := by
  refine F.ok scNumber (fun vs H Q E h => ?_) (fun cdv A0 outer s H vs Q E hr h => ?_)
  · obtain ⟨i, rfl, _⟩ := h; rfl
  · obtain ⟨i, rfl, q⟩ := h
    refine ⟨_, (pss_one (ps_ret (pe_and (pe_callB call_isi (by rfl) B.isi (by decide +kernel) (pa_cons (pv 0) (pa_cons (pe_bltn (v := .ty "int") (by rfl) B.int (by decide +kernel) rfl) pa_nil))) (pe_one (pe_not (pe_callB call_isi (by rfl) B.isi (by decide +kernel) (pa_cons (pv 0) (pa_cons (pe_bltn (v := .ty "bool") (by rfl) B.bool (by decide +kernel) rfl) pa_nil)))))))), ?_⟩
    exact ⟨.int i, rfl, .int i, .ty "int", .type "int", .type "int", true, rfl, .ty "int", .base (.int i), kit_ty (by decide +kernel), _, rfl, iteT ⟨.int i, rfl, .int i, .ty "bool", .type "int", .type "bool", false, rfl, .ty "bool", .base (.int i), kit_ty (by decide +kernel), _, rfl, q⟩⟩
theorem ty_txt {H : Hp} {z : Str} : TyX K H (.str z) (.type "str") := .base (.str z)
theorem ty_lst {H : Hp} {a : Addr} {xs : List V} (h : H a = some (.lst xs)) : TyX K H (.ref a) (.type "list") := .base (.lst h)
theorem ty_tup {H : Hp} {a : Addr} {xs : List V} (h : H a = some (.tup xs)) : TyX K H (.ref a) (.type "tuple") := .base (.tup h)
def Leaf (v : V) : Prop := (∃ z, v = .str z) ∨ (∃ i, v = .int i) ∨ ∃ b, v = .bl b
/-- the same through and through, n deep -/
def SameV : Nat → Hp → V → V → Prop
  | 0, _, x, y => x = y ∧ Leaf x
  | n + 1, H, x, y => (x = y ∧ Leaf x) ∨ ∃ (a b : Addr) (xs ys : List V), x = .ref a ∧ y = .ref b ∧ ((H a = some (.lst xs) ∧ H b = some (.lst ys)) ∨ (H a = some (.tup xs) ∧ H b = some (.tup ys))) ∧ xs.length = ys.length ∧ ys.length ≤ 1000 ∧
      ∀ (i : Nat) u v, xs[i]? = some u → ys[i]? = some v → SameV n H u v
/-- tuples stand -/
def Still : HO → Prop
  | .tup _ => True
  | _ => False
def Kp (H H' : Hp) : Prop := ∀ b o, Still o → H b = some o → H' b = some o
theorem Kp.refl (H : Hp) : Kp H H := fun _ _ _ h => h
theorem Kp.trans {H H1 H2 : Hp} (a : Kp H H1) (b : Kp H1 H2) : Kp H H2 := fun x o n h => b x o n (a x o n h)
theorem Kp.of {H H' : Hp} (s : Same H H') : Kp H H' := fun b o _ h => s b o h
theorem Kp.but {H H' : Hp} {p : Addr} {u : HO} (hp : H p = some u) (nu : ¬ Still u) (s : ∀ b o, b ≠ p → H b = some o → H' b = some o) : Kp H H' := fun b o n h => s b o (fun e => by
  rw [e, hp] at h; cases h; exact nu n) h
theorem Kp.tup {H H' : Hp} (s : Kp H H') {a : Addr} {xs : List V} (h : H a = some (.tup xs)) : H' a = some (.tup xs) := s _ _ True.intro h
theorem upd_but {H : Hp} {p : Addr} {x : HO} : ∀ b o, b ≠ p → H b = some o → upd H p x b = some o := fun b o h e => by rw [upd_ne h]; exact e
def spSame (n : Nat) : Sp := fun vs H Q _ => ∃ x y, vs = [x, y] ∧ SameV n H x y ∧ Q (.bl true) H
theorem scSame : FnScope ["_law_one", "_law_two", "_law_k"] ["_law_one", "_law_two"] (defScope sSame) := ⟨rfl, rfl, rfl, by decide +kernel, rfl, by decide +kernel, by decide +kernel⟩
theorem ok_same0 {f : Addr} {fd : FuncData} (B : Blt mg) (F : Fun K "_law_same" "_law_same" sSame f fd) : FnOk P w K mg base CX0 1 f fd ["_law_one", "_law_two"] (spSame 0) := by
  refine F.ok scSame (fun vs H Q E h => ?_) (fun cdv A outer s H vs Q E hr h => ?_)
  · obtain ⟨x, y, rfl, _⟩ := h; rfl
  · obtain ⟨x, y, rfl, ⟨rfl, hv⟩, q⟩ := h
    refine ⟨_, (pss_cons (ps_if (pt_cmpR op_isN (pv 1) pe_non (nomark _)) (pss_one ps_never) pss_nil)
      (pss_cons (ps_if (pt_val (pe_callB call_isi (by rfl) B.isi (by decide +kernel) (pa_cons (pv 1) (pa_cons (pe_bltn (v := .ty "bool") (by rfl) B.bool (by decide +kernel) rfl) pa_nil)))) (pss_one (ps_ret (pe_and (pe_callB call_isi (by rfl) B.isi (by decide +kernel) (pa_cons (pv 0) (pa_cons (pe_bltn (v := .ty "bool") (by rfl) B.bool (by decide +kernel) rfl) pa_nil))) (pe_one (pe_cmpR op_eq (pv 0) (pv 1) (nomark _)))))) pss_nil)
      (pss_cons (ps_if (pt_val (pe_callB call_isi (by rfl) B.isi (by decide +kernel) (pa_cons (pv 1) (pa_cons (pe_bltn (v := .ty "int") (by rfl) B.int (by decide +kernel) rfl) pa_nil)))) (pss_one (ps_ret (pe_and (pe_callB call_isi (by rfl) B.isi (by decide +kernel) (pa_cons (pv 0) (pa_cons (pe_bltn (v := .ty "int") (by rfl) B.int (by decide +kernel) rfl) pa_nil))) (pe_and (pe_not (pe_callB call_isi (by rfl) B.isi (by decide +kernel) (pa_cons (pv 0) (pa_cons (pe_bltn (v := .ty "bool") (by rfl) B.bool (by decide +kernel) rfl) pa_nil)))) (pe_one (pe_cmpR op_eq (pv 0) (pv 1) (nomark _))))))) pss_nil)
      (pss_cons (ps_if (pt_val (pe_callB call_isi (by rfl) B.isi (by decide +kernel) (pa_cons (pv 1) (pa_cons (pe_bltn (v := .ty "str") (by rfl) B.str (by decide +kernel) rfl) pa_nil)))) (pss_one (ps_ret (pe_and (pe_callB call_isi (by rfl) B.isi (by decide +kernel) (pa_cons (pv 0) (pa_cons (pe_bltn (v := .ty "str") (by rfl) B.str (by decide +kernel) rfl) pa_nil))) (pe_one (pe_cmpR op_eq (pv 0) (pv 1) (nomark _)))))) pss_nil)
      (pss_cons ps_never (pss_cons ps_never (pss_cons ps_never (pss_one ps_never)))))))), ?_⟩
    rcases hv with ⟨z, rfl⟩ | ⟨i, rfl⟩ | ⟨b, rfl⟩
    · refine ⟨.str z, rfl, rfl, _, rfl, iteF ?_⟩
      refine ⟨.str z, rfl, .str z, .ty "bool", .type "str", .type "bool", false, rfl, .ty "bool", ty_txt, kit_ty (by decide +kernel), _, rfl, iteF ?_⟩
      refine ⟨.str z, rfl, .str z, .ty "int", .type "str", .type "int", false, rfl, .ty "int", ty_txt, kit_ty (by decide +kernel), _, rfl, iteF ?_⟩
      refine ⟨.str z, rfl, .str z, .ty "str", .type "str", .type "str", true, rfl, .ty "str", ty_txt, kit_ty (by decide +kernel), _, rfl, iteT ?_⟩
      refine ⟨.str z, rfl, .str z, .ty "str", .type "str", .type "str", true, rfl, .ty "str", ty_txt, kit_ty (by decide +kernel), _, rfl, iteT ?_⟩
      refine ⟨.str z, rfl, .str z, rfl, rfl, ?_⟩
      rw [decide_eq_true rfl]; exact q
    · refine ⟨.int i, rfl, rfl, _, rfl, iteF ?_⟩
      refine ⟨.int i, rfl, .int i, .ty "bool", .type "int", .type "bool", false, rfl, .ty "bool", .base (.int i), kit_ty (by decide +kernel), _, rfl, iteF ?_⟩
      refine ⟨.int i, rfl, .int i, .ty "int", .type "int", .type "int", true, rfl, .ty "int", .base (.int i), kit_ty (by decide +kernel), _, rfl, iteT ?_⟩
      refine ⟨.int i, rfl, .int i, .ty "int", .type "int", .type "int", true, rfl, .ty "int", .base (.int i), kit_ty (by decide +kernel), _, rfl, iteT ?_⟩
      refine ⟨.int i, rfl, .int i, .ty "bool", .type "int", .type "bool", false, rfl, .ty "bool", .base (.int i), kit_ty (by decide +kernel), _, rfl, _, rfl, iteT ?_⟩
      refine ⟨.int i, rfl, .int i, rfl, rfl, ?_⟩
      rw [decide_eq_true rfl]; exact q
    · refine ⟨.bl b, rfl, rfl, _, rfl, iteF ?_⟩
      refine ⟨.bl b, rfl, .bl b, .ty "bool", .type "bool", .type "bool", true, rfl, .ty "bool", .base (.bl b), kit_ty (by decide +kernel), _, rfl, iteT ?_⟩
      refine ⟨.bl b, rfl, .bl b, .ty "bool", .type "bool", .type "bool", true, rfl, .ty "bool", .base (.bl b), kit_ty (by decide +kernel), _, rfl, iteT ?_⟩
      refine ⟨.bl b, rfl, .bl b, rfl, rfl, ?_⟩
      rw [decide_eq_true rfl]; exact q
theorem ok_same1 {n : Nat} {f_same : Addr} {fd_same : FuncData} (B : Blt mg) (F_same : Fun K "_law_same" "_law_same" sSame f_same fd_same) (b_same : Binds K fd_same ["_law_one", "_law_two"] []) (g_same : mg "_law_same" = some (.ref f_same))
    (G_same : FnOk P w K mg base CX0 (n + 1) f_same fd_same ["_law_one", "_law_two"] (spSame n)) : FnOk P w K mg base CX0 (n + 2) f_same fd_same ["_law_one", "_law_two"] (spSame (n + 1)) := by
  refine F_same.ok scSame (fun vs H Q E h => ?_) (fun cdv A outer s H vs Q E hr h => ?_)
  · obtain ⟨x, y, rfl, _⟩ := h; rfl
  · obtain ⟨x, y, rfl, hv, q⟩ := h
    refine ⟨_, (pss_cons (ps_if (pt_cmpR op_isN (pv 1) pe_non (nomark _)) (pss_one ps_never) pss_nil)
      (pss_cons (ps_if (pt_val (pe_callB call_isi (by rfl) B.isi (by decide +kernel) (pa_cons (pv 1) (pa_cons (pe_bltn (v := .ty "bool") (by rfl) B.bool (by decide +kernel) rfl) pa_nil)))) (pss_one (ps_ret (pe_and (pe_callB call_isi (by rfl) B.isi (by decide +kernel) (pa_cons (pv 0) (pa_cons (pe_bltn (v := .ty "bool") (by rfl) B.bool (by decide +kernel) rfl) pa_nil))) (pe_one (pe_cmpR op_eq (pv 0) (pv 1) (nomark _)))))) pss_nil)
      (pss_cons (ps_if (pt_val (pe_callB call_isi (by rfl) B.isi (by decide +kernel) (pa_cons (pv 1) (pa_cons (pe_bltn (v := .ty "int") (by rfl) B.int (by decide +kernel) rfl) pa_nil)))) (pss_one (ps_ret (pe_and (pe_callB call_isi (by rfl) B.isi (by decide +kernel) (pa_cons (pv 0) (pa_cons (pe_bltn (v := .ty "int") (by rfl) B.int (by decide +kernel) rfl) pa_nil))) (pe_and (pe_not (pe_callB call_isi (by rfl) B.isi (by decide +kernel) (pa_cons (pv 0) (pa_cons (pe_bltn (v := .ty "bool") (by rfl) B.bool (by decide +kernel) rfl) pa_nil)))) (pe_one (pe_cmpR op_eq (pv 0) (pv 1) (nomark _))))))) pss_nil)
      (pss_cons (ps_if (pt_val (pe_callB call_isi (by rfl) B.isi (by decide +kernel) (pa_cons (pv 1) (pa_cons (pe_bltn (v := .ty "str") (by rfl) B.str (by decide +kernel) rfl) pa_nil)))) (pss_one (ps_ret (pe_and (pe_callB call_isi (by rfl) B.isi (by decide +kernel) (pa_cons (pv 0) (pa_cons (pe_bltn (v := .ty "str") (by rfl) B.str (by decide +kernel) rfl) pa_nil))) (pe_one (pe_cmpR op_eq (pv 0) (pv 1) (nomark _)))))) pss_nil)
      (pss_cons (ps_if (PW.pt (pw_and (pt_val (pe_callB call_isi (by rfl) B.isi (by decide +kernel) (pa_cons (pv 1) (pa_cons (pe_bltn (v := .ty "tuple") (by rfl) B.tuple (by decide +kernel) rfl) pa_nil)))) (pw_and1 (pt_not (pt_val (pe_callB call_isi (by rfl) B.isi (by decide +kernel) (pa_cons (pv 0) (pa_cons (pe_bltn (v := .ty "tuple") (by rfl) B.tuple (by decide +kernel) rfl) pa_nil)))))))) (pss_one ps_never) pss_nil)
      (pss_cons (ps_if (PW.pt (pw_and (pt_val (pe_callB call_isi (by rfl) B.isi (by decide +kernel) (pa_cons (pv 1) (pa_cons (pe_bltn (v := .ty "list") (by rfl) B.list (by decide +kernel) rfl) pa_nil)))) (pw_and1 (pt_not (pt_val (pe_callB call_isi (by rfl) B.isi (by decide +kernel) (pa_cons (pv 0) (pa_cons (pe_bltn (v := .ty "list") (by rfl) B.list (by decide +kernel) rfl) pa_nil)))))))) (pss_one ps_never) pss_nil)
      (pss_cons (ps_if (PW.pt (pw_or (pt_val (pe_callB call_isi (by rfl) B.isi (by decide +kernel) (pa_cons (pv 1) (pa_cons (pe_bltn (v := .ty "tuple") (by rfl) B.tuple (by decide +kernel) rfl) pa_nil)))) (pw_or1 (pt_val (pe_callB call_isi (by rfl) B.isi (by decide +kernel) (pa_cons (pv 1) (pa_cons (pe_bltn (v := .ty "list") (by rfl) B.list (by decide +kernel) rfl) pa_nil)))))))
       (pss_cons (ps_if (pt_cmpR op_ne (pe_callB call_len (by rfl) B.len PySem.boot_len (pa_cons (pv 0) pa_nil)) (pe_callB call_len (by rfl) B.len PySem.boot_len (pa_cons (pv 1) pa_nil)) (nomark _)) (pss_one (ps_ret pe_bl)) pss_nil)
       (pss_cons (ps_for (PassesOwn.never) rfl (pi_range1 (by rfl) B.range (pa_cons (pe_callB call_len (by rfl) B.len PySem.boot_len (pa_cons (pv 1) pa_nil)) pa_nil)) (pg_name (i := 2) scSame.nd rfl (.inl rfl))
        (pss_one (ps_if (pt_not (pt_val (pe_call G_same hr (by rfl) g_same F_same.kp b_same .nil pass0 (pa_cons (pe_ix (ix_list.or ix_tup) (pv 0) (pv 2) (fun _ _ => rfl)) (pa_cons (pe_ix (ix_list.or ix_tup) (pv 1) (pv 2) (fun _ _ => rfl)) pa_nil)))))
         (pss_one (ps_ret pe_bl)) pss_nil)))
       (pss_one (ps_ret pe_bl)))) pss_nil)
      (pss_one ps_never)))))))), ?_⟩
    rcases hv with ⟨rfl, hv⟩ | ⟨a, b, xs, ys, rfl, rfl, ⟨ha, hb⟩ | ⟨ha, hb⟩, hle, hx, hall⟩
    · rcases hv with ⟨z, rfl⟩ | ⟨i, rfl⟩ | ⟨b, rfl⟩
      · refine ⟨.str z, rfl, rfl, _, rfl, iteF ?_⟩
        refine ⟨.str z, rfl, .str z, .ty "bool", .type "str", .type "bool", false, rfl, .ty "bool", ty_txt, kit_ty (by decide +kernel), _, rfl, iteF ?_⟩
        refine ⟨.str z, rfl, .str z, .ty "int", .type "str", .type "int", false, rfl, .ty "int", ty_txt, kit_ty (by decide +kernel), _, rfl, iteF ?_⟩
        refine ⟨.str z, rfl, .str z, .ty "str", .type "str", .type "str", true, rfl, .ty "str", ty_txt, kit_ty (by decide +kernel), _, rfl, iteT ?_⟩
        refine ⟨.str z, rfl, .str z, .ty "str", .type "str", .type "str", true, rfl, .ty "str", ty_txt, kit_ty (by decide +kernel), _, rfl, iteT ?_⟩
        refine ⟨.str z, rfl, .str z, rfl, rfl, ?_⟩
        rw [decide_eq_true rfl]; exact q
      · refine ⟨.int i, rfl, rfl, _, rfl, iteF ?_⟩
        refine ⟨.int i, rfl, .int i, .ty "bool", .type "int", .type "bool", false, rfl, .ty "bool", .base (.int i), kit_ty (by decide +kernel), _, rfl, iteF ?_⟩
        refine ⟨.int i, rfl, .int i, .ty "int", .type "int", .type "int", true, rfl, .ty "int", .base (.int i), kit_ty (by decide +kernel), _, rfl, iteT ?_⟩
        refine ⟨.int i, rfl, .int i, .ty "int", .type "int", .type "int", true, rfl, .ty "int", .base (.int i), kit_ty (by decide +kernel), _, rfl, iteT ?_⟩
        refine ⟨.int i, rfl, .int i, .ty "bool", .type "int", .type "bool", false, rfl, .ty "bool", .base (.int i), kit_ty (by decide +kernel), _, rfl, _, rfl, iteT ?_⟩
        refine ⟨.int i, rfl, .int i, rfl, rfl, ?_⟩
        rw [decide_eq_true rfl]; exact q
      · refine ⟨.bl b, rfl, rfl, _, rfl, iteF ?_⟩
        refine ⟨.bl b, rfl, .bl b, .ty "bool", .type "bool", .type "bool", true, rfl, .ty "bool", .base (.bl b), kit_ty (by decide +kernel), _, rfl, iteT ?_⟩
        refine ⟨.bl b, rfl, .bl b, .ty "bool", .type "bool", .type "bool", true, rfl, .ty "bool", .base (.bl b), kit_ty (by decide +kernel), _, rfl, iteT ?_⟩
        refine ⟨.bl b, rfl, .bl b, rfl, rfl, ?_⟩
        rw [decide_eq_true rfl]; exact q
    · refine ⟨.ref b, rfl, rfl, _, rfl, iteF ?_⟩
      refine ⟨.ref b, rfl, .ref b, .ty "bool", .type "list", .type "bool", false, rfl, .ty "bool", ty_lst hb, kit_ty (by decide +kernel), _, rfl, iteF ?_⟩
      refine ⟨.ref b, rfl, .ref b, .ty "int", .type "list", .type "int", false, rfl, .ty "int", ty_lst hb, kit_ty (by decide +kernel), _, rfl, iteF ?_⟩
      refine ⟨.ref b, rfl, .ref b, .ty "str", .type "list", .type "str", false, rfl, .ty "str", ty_lst hb, kit_ty (by decide +kernel), _, rfl, iteF ?_⟩
      refine ⟨.ref b, rfl, .ref b, .ty "tuple", .type "list", .type "tuple", false, rfl, .ty "tuple", ty_lst hb, kit_ty (by decide +kernel), _, rfl, iteF ?_⟩
      refine ⟨.ref b, rfl, .ref b, .ty "list", .type "list", .type "list", true, rfl, .ty "list", ty_lst hb, kit_ty (by decide +kernel), _, rfl, iteT ?_⟩
      refine ⟨.ref a, rfl, .ref a, .ty "list", .type "list", .type "list", true, rfl, .ty "list", ty_lst ha, kit_ty (by decide +kernel), _, rfl, iteF ?_⟩
      refine ⟨.ref b, rfl, .ref b, .ty "tuple", .type "list", .type "tuple", false, rfl, .ty "tuple", ty_lst hb, kit_ty (by decide +kernel), _, rfl, iteF ?_⟩
      refine ⟨.ref b, rfl, .ref b, .ty "list", .type "list", .type "list", true, rfl, .ty "list", ty_lst hb, kit_ty (by decide +kernel), _, rfl, iteT ?_⟩
      refine ⟨.ref a, rfl, .ref a, xs.length, rfl, .inl ⟨_, SqL.of ha, rfl⟩, .ref b, rfl, .ref b, ys.length, rfl, .inl ⟨_, SqL.of hb, rfl⟩, rfl, _, rfl, ?_⟩
      rw [hle, decide_eq_true rfl]
      refine iteF ⟨.ref b, rfl, .ref b, ys.length, rfl, .inl ⟨_, SqL.of hb, rfl⟩, (ys.length : Int), rfl, by omega, by omega, ?_⟩
      rw [Int.toNat_natCast]
      refine for_range (lo := 0) (n := ys.length) (fun n σ H' => ∃ y, σ = [some (.ref a), some (.ref b), y] ∧ H' = H) ⟨none, rfl, rfl⟩ ?_ ?_
      · rintro k σ H' hk ⟨y, rfl, rfl⟩
        have e0 : (0 : Int) + (k : Int) = (k : Int) := by omega
        rw [e0]
        have g1 : xs[k]? = some (xs[k]'(by omega)) := by simp
        have g2 : ys[k]? = some (ys[k]'hk) := by simp
        refine ⟨.ref a, rfl, .int (k : Int), rfl, .inl ⟨a, xs, (k : Int), _, rfl, rfl, SqL.of ha, atI_nat g1, .ref b, rfl, .int (k : Int), rfl, .inl ⟨b, ys, (k : Int), _, rfl, rfl, SqL.of hb, atI_nat g2, ?_⟩⟩⟩
        exact ⟨_, _, rfl, hall k _ _ g1 g2, true, rfl, iteF ⟨_, rfl, rfl⟩⟩
      · rintro σ H' ⟨y, rfl, rfl⟩
        exact q
    · refine ⟨.ref b, rfl, rfl, _, rfl, iteF ?_⟩
      refine ⟨.ref b, rfl, .ref b, .ty "bool", .type "tuple", .type "bool", false, rfl, .ty "bool", ty_tup hb, kit_ty (by decide +kernel), _, rfl, iteF ?_⟩
      refine ⟨.ref b, rfl, .ref b, .ty "int", .type "tuple", .type "int", false, rfl, .ty "int", ty_tup hb, kit_ty (by decide +kernel), _, rfl, iteF ?_⟩
      refine ⟨.ref b, rfl, .ref b, .ty "str", .type "tuple", .type "str", false, rfl, .ty "str", ty_tup hb, kit_ty (by decide +kernel), _, rfl, iteF ?_⟩
      refine ⟨.ref b, rfl, .ref b, .ty "tuple", .type "tuple", .type "tuple", true, rfl, .ty "tuple", ty_tup hb, kit_ty (by decide +kernel), _, rfl, iteT ?_⟩
      refine ⟨.ref a, rfl, .ref a, .ty "tuple", .type "tuple", .type "tuple", true, rfl, .ty "tuple", ty_tup ha, kit_ty (by decide +kernel), _, rfl, iteF ?_⟩
      refine ⟨.ref b, rfl, .ref b, .ty "list", .type "tuple", .type "list", false, rfl, .ty "list", ty_tup hb, kit_ty (by decide +kernel), _, rfl, iteF ?_⟩
      refine ⟨.ref b, rfl, .ref b, .ty "tuple", .type "tuple", .type "tuple", true, rfl, .ty "tuple", ty_tup hb, kit_ty (by decide +kernel), _, rfl, iteT ?_⟩
      refine ⟨.ref a, rfl, .ref a, xs.length, rfl, .inr ⟨_, SqT.of ha, rfl⟩, .ref b, rfl, .ref b, ys.length, rfl, .inr ⟨_, SqT.of hb, rfl⟩, rfl, _, rfl, ?_⟩
      rw [hle, decide_eq_true rfl]
      refine iteF ⟨.ref b, rfl, .ref b, ys.length, rfl, .inr ⟨_, SqT.of hb, rfl⟩, (ys.length : Int), rfl, by omega, by omega, ?_⟩
      rw [Int.toNat_natCast]
      refine for_range (lo := 0) (n := ys.length) (fun n σ H' => ∃ y, σ = [some (.ref a), some (.ref b), y] ∧ H' = H) ⟨none, rfl, rfl⟩ ?_ ?_
      · rintro k σ H' hk ⟨y, rfl, rfl⟩
        have e0 : (0 : Int) + (k : Int) = (k : Int) := by omega
        rw [e0]
        have g1 : xs[k]? = some (xs[k]'(by omega)) := by simp
        have g2 : ys[k]? = some (ys[k]'hk) := by simp
        refine ⟨.ref a, rfl, .int (k : Int), rfl, .inr ⟨a, xs, (k : Int), _, rfl, rfl, SqT.of ha, atI_nat g1, .ref b, rfl, .int (k : Int), rfl, .inr ⟨b, ys, (k : Int), _, rfl, rfl, SqT.of hb, atI_nat g2, ?_⟩⟩⟩
        exact ⟨_, _, rfl, hall k _ _ g1 g2, true, rfl, iteF ⟨_, rfl, rfl⟩⟩
      · rintro σ H' ⟨y, rfl, rfl⟩
        exact q
theorem ok_same {f_same : Addr} {fd_same : FuncData} (B : Blt mg) (F_same : Fun K "_law_same" "_law_same" sSame f_same fd_same) (b_same : Binds K fd_same ["_law_one", "_law_two"] []) (g_same : mg "_law_same" = some (.ref f_same)) :
    ∀ n, FnOk P w K mg base CX0 (n + 1) f_same fd_same ["_law_one", "_law_two"] (spSame n)
  | 0 => ok_same0 B F_same
  | n + 1 => ok_same1 B F_same b_same g_same (ok_same B F_same b_same g_same n)
/-! ### the errors -/
def spEI (K : PySem.W.Frag) (C : Addr) (fld : Str) : Sp := fun vs H Q _ => ∃ (a : Addr) (v : V), vs = [.ref a, v] ∧ H a = some (exo a C none) ∧ OexC K C ∧ PySem.W.findIn K (.ref C) fld = some none ∧
  ∀ d, H d = none → d ≠ a → Q .non (upd (upd H d (exd d [(fld, v)])) a (exo a C (some d)))
theorem heap_err {H : Hp} {a d C : Addr} {v : V} {fld : Str} (ha : H a = none) (hd : H d = none) (hne : d ≠ a) :
    upd (del (upd (upd (upd H a (exo a C none)) d (exd d [(fld, v)])) a (exo a C (some d))) a) d (.xd [(fld, v)]) = upd H d (.xd [(fld, v)]) := by
  funext b
  by_cases h1 : b = d
  · subst h1; rw [upd_same, upd_same]
  · rw [upd_ne h1, upd_ne h1]
    by_cases h2 : b = a
    · subst h2; rw [del_same, ha]
    · rw [del_ne h2, upd_ne h2, upd_ne h1, upd_ne h2]
theorem raise_err {C : Addr} {v : V} {H : Hp} {Q : XK} {fld : Str} (o : OexC K C) (fp : PySem.W.findIn K (.ref C) fld = some none) (q : ∀ d, H d = none → Q (.ref C) (some d) (upd H d (.xd [(fld, v)]))) :
    [v].length ≤ 1000 ∧ ∀ a, H a = none → spEI K C fld (.ref a :: ([v] ++ [])) (upd H a (exo a C none))
      (fun u H2 => u = .non ∧ ∃ (d : Addr) (fs : List (Str × V)), H2 a = some (exo a C (some d)) ∧ H2 d = some (exd d fs) ∧ H d = none ∧ Q (.ref C) (some d) (upd (del H2 a) d (.xd fs))) (fun _ _ _ => False) := by
  refine ⟨by show 1 ≤ 1000; decide, fun a ha => ⟨a, v, rfl, upd_same, o, fp, fun d h1 hne => ⟨rfl, d, [(fld, v)], upd_same, ?_, ?_, ?_⟩⟩⟩
  · rw [upd_ne hne, upd_same]
  · rw [upd_ne hne] at h1; exact h1
  · rw [upd_ne hne] at h1
    rw [heap_err ha h1 hne]; exact q d h1

theorem scTlI : FnScope ["self", "many"] ["self", "many"] (defScope sTooI) := ⟨rfl, rfl, rfl, by decide +kernel, rfl, by decide +kernel, by decide +kernel⟩
structure TlE (K : PySem.W.Frag) (mg : Str → Option Value) (C fI : Addr) (fd : FuncData) : Prop where
  gC : mg "TooLarge" = some (.ref C)
  oex : OexC K C
  fp : PySem.W.findIn K (.ref C) "many" = some none
  iC : PySem.W.findIn K (.ref C) "__init__" = some (some (.ref fI))
  tI : PySem.W.typeIn K (.ref fI) = some (.type "function")
  F : Fun K "__init__" "TooLarge.__init__" sTooI fI fd
  b : Binds K fd ["self", "many"] []
def spTlI (K : PySem.W.Frag) (C : Addr) : Sp := spEI K C "many"
theorem ok_TlI {f C : Addr} {fd : FuncData} (F : Fun K "__init__" "TooLarge.__init__" sTooI f fd) : FnOk P w K mg base CX0 1 f fd ["self", "many"] (spTlI K C) := by
  refine F.ok scTlI (fun vs H Q E h => ?_) (fun cdv A outer s H vs Q E hr h => ?_)
  · obtain ⟨a, v, rfl, _⟩ := h; rfl
  · obtain ⟨a, v, rfl, ha, o, fp, q⟩ := h
    refine ⟨_, pss_one (ps_ost (pv 0) (pv 1)), ?_⟩
    exact ⟨_, rfl, _, rfl, a, C, rfl, o, fp, .inl ⟨ha, fun dx h1 h2 => q dx h1 h2⟩⟩

theorem scNnI : FnScope ["self", "number"] ["self", "number"] (defScope sNoNI) := ⟨rfl, rfl, rfl, by decide +kernel, rfl, by decide +kernel, by decide +kernel⟩
structure NnE (K : PySem.W.Frag) (mg : Str → Option Value) (C fI : Addr) (fd : FuncData) : Prop where
  gC : mg "NoSuchNumber" = some (.ref C)
  oex : OexC K C
  fp : PySem.W.findIn K (.ref C) "number" = some none
  iC : PySem.W.findIn K (.ref C) "__init__" = some (some (.ref fI))
  tI : PySem.W.typeIn K (.ref fI) = some (.type "function")
  F : Fun K "__init__" "NoSuchNumber.__init__" sNoNI fI fd
  b : Binds K fd ["self", "number"] []
def spNnI (K : PySem.W.Frag) (C : Addr) : Sp := spEI K C "number"
theorem ok_NnI {f C : Addr} {fd : FuncData} (F : Fun K "__init__" "NoSuchNumber.__init__" sNoNI f fd) : FnOk P w K mg base CX0 1 f fd ["self", "number"] (spNnI K C) := by
  refine F.ok scNnI (fun vs H Q E h => ?_) (fun cdv A outer s H vs Q E hr h => ?_)
  · obtain ⟨a, v, rfl, _⟩ := h; rfl
  · obtain ⟨a, v, rfl, ha, o, fp, q⟩ := h
    refine ⟨_, pss_one (ps_ost (pv 0) (pv 1)), ?_⟩
    exact ⟨_, rfl, _, rfl, a, C, rfl, o, fp, .inl ⟨ha, fun dx h1 h2 => q dx h1 h2⟩⟩

end
end K34

set_option maxRecDepth 100000
set_option maxHeartbeats 8000000
namespace K34
open PySem PySem.Spec PyProof.Rows L2
/-! ### pieces and blocks -/
/-- a piece: its tuple, its height, its tie (a word, perhaps a number), its notes, its calls -/
structure Pc where
  t : Addr
  h : Int
  ti : Addr
  tw : Str
  tn : Option Int
  no : Addr
  notes : List Int
  ca : Addr
  calls : List Int
structure Bk where
  t : Addr
  a : Int
  b : Int
  c : Int
  f : Bool
  pt : Addr
  ps : List Pc
def tieV (p : Pc) : List V := .str p.tw :: p.tn.toList.map V.int
def pv' (ps : List Pc) : List V := ps.map fun p => V.ref p.t
def bv (bs : List Bk) : List V := bs.map fun b => V.ref b.t
def words : List Str := [Str.ofString "blank", Str.ofString "end", Str.ofString "joint"]
def PcT (H : Hp) (p : Pc) : Prop := H p.t = some (.tup [.int p.h, .ref p.ti, .ref p.no, .ref p.ca]) ∧ H p.ti = some (.tup (tieV p)) ∧ p.tw ∈ words ∧ H p.no = some (.tup (p.notes.map V.int)) ∧ p.notes.length ≤ 4 ∧ H p.ca = some (.tup (p.calls.map V.int)) ∧ p.calls.length ≤ 4
def BkT (H : Hp) (b : Bk) : Prop := H b.t = some (.tup [.int b.a, .int b.b, .int b.c, .bl b.f, .ref b.pt]) ∧ H b.pt = some (.tup (pv' b.ps)) ∧ b.ps.length ≤ 50 ∧ ∀ p ∈ b.ps, PcT H p
theorem PcT.kp {H H' : Hp} {p : Pc} (h : PcT H p) (s : Kp H H') : PcT H' p := ⟨s.tup h.1, s.tup h.2.1, h.2.2.1, s.tup h.2.2.2.1, h.2.2.2.2.1, s.tup h.2.2.2.2.2.1, h.2.2.2.2.2.2⟩
theorem BkT.kp {H H' : Hp} {b : Bk} (h : BkT H b) (s : Kp H H') : BkT H' b := ⟨s.tup h.1, s.tup h.2.1, h.2.2.1, fun p hp => (h.2.2.2 p hp).kp s⟩
def pcs (bs : List Bk) : List Pc := bs.flatMap (·.ps)
def figs (ps : List Pc) : List Int := ps.flatMap (·.calls)
def BsT (H : Hp) (bs : List Bk) : Prop := ∀ b ∈ bs, BkT H b
theorem BsT.kp {H H' : Hp} {bs : List Bk} (h : BsT H bs) (s : Kp H H') : BsT H' bs := fun b hb => (h b hb).kp s
theorem BsT.pcs {H : Hp} {bs : List Bk} (h : BsT H bs) : ∀ p ∈ pcs bs, PcT H p := fun p hp => by
  obtain ⟨b, hb, hp⟩ := List.mem_flatMap.mp hp
  exact (h b hb).2.2.2 p hp
def Small (bs : List Bk) : Prop := bs.length ≤ 200 ∧ (pcs bs).length ≤ 200
theorem figs_len {H : Hp} : ∀ {ps : List Pc}, (∀ p ∈ ps, PcT H p) → (figs ps).length ≤ 4 * ps.length
  | [], _ => Nat.le_refl _
  | p :: ps, h => by
    have h1 := (h p List.mem_cons_self).2.2.2.2.2.2
    have h2 := figs_len (ps := ps) fun q hq => h q (List.mem_cons_of_mem _ hq)
    show (p.calls ++ figs ps).length ≤ _
    rw [List.length_append, List.length_cons]; omega
theorem flat_take {α β : Type} (f : α → List β) {l : List α} {i : Nat} {x : α} (h : l[i]? = some x) : (l.take (i + 1)).flatMap f = (l.take i).flatMap f ++ f x := by
  rw [List.take_add_one, h, List.flatMap_append]; simp
theorem flat_le {α β : Type} (f : α → List β) : ∀ {l : List α} {i : Nat} {x : α}, l[i]? = some x → ((l.take i).flatMap f).length + (f x).length ≤ (l.flatMap f).length
  | [], _, _, h => by cases h
  | y :: l, 0, x, h => by
    cases h
    rw [List.take_zero, List.flatMap_nil, List.flatMap_cons, List.length_append, List.length_nil]; omega
  | y :: l, i + 1, x, h => by
    have := flat_le f (l := l) (i := i) h
    rw [List.take_succ_cons, List.flatMap_cons, List.flatMap_cons, List.length_append, List.length_append]; omega
theorem bv_at {bs : List Bk} {i : Nat} {b : Bk} (h : bs[i]? = some b) : (bv bs)[i]? = some (.ref b.t) := by unfold bv; rw [List.getElem?_map, h]; rfl
theorem pv_at {bs : List Pc} {i : Nat} {b : Pc} (h : bs[i]? = some b) : (pv' bs)[i]? = some (.ref b.t) := by unfold pv'; rw [List.getElem?_map, h]; rfl
theorem bv_len (bs : List Bk) : (bv bs).length = bs.length := by unfold bv; rw [List.length_map]
theorem pv_len (ps : List Pc) : (pv' ps).length = ps.length := by unfold pv'; rw [List.length_map]
theorem pv_snoc {ps : List Pc} {p : Pc} : pv' ps ++ [.ref p.t] = pv' (ps ++ [p]) := by unfold pv'; rw [List.map_append]; rfl
theorem of_bv {bs : List Bk} {i : Nat} {x : V} (h : (bv bs)[i]? = some x) : ∃ b, bs[i]? = some b ∧ x = .ref b.t := by
  unfold bv at h
  rw [List.getElem?_map] at h
  obtain ⟨b, hb, e⟩ := Option.map_eq_some_iff.mp h
  exact ⟨b, hb, e.symm⟩
theorem of_pv {ps : List Pc} {i : Nat} {x : V} (h : (pv' ps)[i]? = some x) : ∃ p, ps[i]? = some p ∧ x = .ref p.t := by
  unfold pv' at h
  rw [List.getElem?_map] at h
  obtain ⟨b, hb, e⟩ := Option.map_eq_some_iff.mp h
  exact ⟨b, hb, e.symm⟩
/-- blocks handed over: a list of them, or the empty tuple of the text -/
def Arg (K : PySem.W.Frag) (H : Hp) (a : Addr) (bs : List Bk) : Prop := H a = some (.lst (bv bs)) ∨ (bs = [] ∧ SqT K H a [])
theorem pi_tupK {X : Cx} {K : PySem.W.Frag} (hK : X.K = K) {tg l : Expr} {tl : TE} (hl : PE X l tl) : PI X tg l (iTup K tl) := by subst hK; exact pi_tup hl
theorem pi_listK {X : Cx} {K : PySem.W.Frag} (hK : X.K = K) {tg l : Expr} {tl : TE} (hl : PE X l tl) : PI X tg l (iList K tl) := by subst hK; exact pi_list hl
section
variable {P : Program} {w : World} {K : PySem.W.Frag} {mg : Str → Option Value} {base : Heap}
/-! ### _pieces_of -/
def spPieces (K : PySem.W.Frag) : Sp := fun vs H Q _ => ∃ (a : Addr) (bs : List Bk), vs = [.ref a] ∧ Arg K H a bs ∧ BsT H bs ∧ Small bs ∧ ∀ H' p, Same H H' → H p = none → H' p = some (.lst (pv' (pcs bs))) → Q (.ref p) H'
abbrev nPieces : List Str := ["blocks", "block", "piece"]
theorem scPieces : FnScope nPieces ["blocks"] (defScope sPieces) := ⟨rfl, rfl, rfl, by decide +kernel, rfl, by decide +kernel, by decide +kernel⟩
theorem ok_pieces {f : Addr} {fd : FuncData} (F : Fun K "_pieces_of" "_pieces_of" sPieces f fd) : FnOk P w K mg base CX0 1 f fd ["blocks"] (spPieces K) := by
  refine F.ok scPieces (fun vs H Q E h => ?_) (fun cdv A0 outer s H vs Q E hr h => ?_)
  · obtain ⟨a, bs, rfl, _⟩ := h; rfl
  · obtain ⟨a, bs, rfl, harg, hb, ⟨hs1, hs2⟩, q⟩ := h
    rcases harg with ha | ⟨rfl, ha⟩
    · refine ⟨_, pss_one (ps_ret (pe_lc2 (own := [("block", 1), ("piece", 2)]) (vs1 := [2]) (g := gName 1) (g1 := gName 2) (tt := tYes) (tt1 := tYes) rfl scPieces.nd (pi_list (pv 0)) (blkOk_by (N := nPieces) (sc := defScope sPieces) (by decide +kernel)) (by decide) (fun _ _ _ _ _ => pg_name (i := 1) scPieces.nd rfl (.inl rfl)) (fun _ _ _ _ _ => pts_nil) (fun _ _ _ _ _ => pi_tupK (K := K) rfl (pe_ix (show IxR _ (rIxT K) from ix_tup) (pv 1) pe_int (fun _ _ => rfl))) (fun _ _ _ _ _ => pg_name (i := 2) scPieces.nd rfl (.inl rfl)) (fun _ _ _ _ _ => pts_nil) (fun _ _ _ _ _ => pv 2))), ?_⟩
      refine ⟨.ref a, rfl, a, rfl, ⟨_, SqL.of ha⟩, fun D hD => ?_⟩
      refine R4.lc2_out (walk_list (K := K) (a := a) (xs := bv bs)) (fun i H' => H' D = some (.lst (pv' (pcs (bs.take i)))) ∧ Same H H') ⟨upd_same, same_new hD⟩ (fun i H' _ ⟨_, s⟩ => SqL.of (s _ _ ha)) ?_ ?_
      · rintro i v H2 H2' hi ⟨hD2, s2⟩ ⟨rfl, hv⟩
        obtain ⟨b, en, rfl⟩ := of_bv hv
        obtain ⟨h1, h2, h3, h4⟩ := (hb b (List.mem_of_getElem? en)).kp (Kp.of s2)
        have hle := flat_le (·.ps) en
        refine ⟨rfl, .ref b.t, rfl, b.t, _, 4, .ref b.pt, rfl, rfl, SqT.of h1, rfl, b.pt, rfl, ⟨_, SqT.of h2⟩, ?_⟩
        refine R4.lc2_in (walk_tup (K := K) (a := b.pt) (xs := pv' b.ps)) (fun j H' => H' D = some (.lst (pv' (pcs (bs.take i) ++ b.ps.take j))) ∧ Same H H') ⟨by rw [List.take_zero, List.append_nil]; exact hD2, s2⟩ (fun j H' _ ⟨_, s⟩ => SqT.of (((hb b (List.mem_of_getElem? en)).kp (Kp.of s)).2.1)) ?_ ?_
        · rintro j x H3 H3' hj ⟨hD3, s3⟩ ⟨rfl, hx⟩
          obtain ⟨p, ep, rfl⟩ := of_pv hx
          have hjl := (List.getElem?_eq_some_iff.mp ep).1
          refine ⟨rfl, .ref p.t, rfl, _, hD3, ?_, ?_, same_at s3 hD⟩
          · rw [pv_len, List.length_append, List.length_take]
            exact small1000 (by show (List.flatMap _ _).length + _ ≤ _; unfold pcs at hs2; omega)
          · rw [upd_same, pv_snoc, List.take_add_one, ep, List.append_assoc]; rfl
        · rintro H3 ⟨hD3, s3⟩
          rw [pv_len, List.take_length] at hD3
          exact ⟨by unfold pcs; rw [flat_take _ en]; exact hD3, s3⟩
      · rintro H2 ⟨hD2, s2⟩
        rw [bv_len, List.take_length] at hD2
        exact q H2 D s2 hD hD2
    · refine ⟨_, pss_one (ps_ret (pe_lc2 (own := [("block", 1), ("piece", 2)]) (vs1 := [2]) (g := gName 1) (g1 := gName 2) (tt := tYes) (tt1 := tYes) rfl scPieces.nd (pi_tup (pv 0)) (blkOk_by (N := nPieces) (sc := defScope sPieces) (by decide +kernel)) (by decide) (fun _ _ _ _ _ => pg_name (i := 1) scPieces.nd rfl (.inl rfl)) (fun _ _ _ _ _ => pts_nil) (fun _ _ _ _ _ => pi_tupK (K := K) rfl (pe_ix (show IxR _ (rIxT K) from ix_tup) (pv 1) pe_int (fun _ _ => rfl))) (fun _ _ _ _ _ => pg_name (i := 2) scPieces.nd rfl (.inl rfl)) (fun _ _ _ _ _ => pts_nil) (fun _ _ _ _ _ => pv 2))), ?_⟩
      refine ⟨.ref a, rfl, a, rfl, ⟨_, ha⟩, fun D hD => ?_⟩
      refine R4.lc2_out (walk_tup (K := K) (a := a) (xs := [])) (fun i H' => H' D = some (.lst []) ∧ Same H H' ∧ SqT K H' a []) ⟨upd_same, same_new hD, ?_⟩ (fun i H' _ ⟨_, _, s⟩ => s) (fun i v H2 H2' hi => absurd hi (Nat.not_lt_zero _)) ?_
      · rcases ha with ha | ha
        · rcases ha with ha | ⟨o, ha⟩
          · exact .inl (.inl (same_new hD _ _ ha))
          · exact .inl (.inr ⟨o, same_new hD _ _ ha⟩)
        · exact .inr ha
      · rintro H2 ⟨hD2, s2, _⟩
        exact q H2 D s2 hD hD2
/-! ### _figures_of -/
def spFigures (K : PySem.W.Frag) : Sp := fun vs H Q _ => ∃ (a : Addr) (ps : List Pc), vs = [.ref a] ∧ H a = some (.lst (pv' ps)) ∧ (∀ p ∈ ps, PcT H p) ∧ ps.length ≤ 200 ∧ ∀ H' p, Same H H' → H p = none → H' p = some (.lst ((figs ps).map V.int)) → Q (.ref p) H'
abbrev nFigures : List Str := ["pieces", "piece", "height"]
theorem scFigures : FnScope nFigures ["pieces"] (defScope sFigures) := ⟨rfl, rfl, rfl, by decide +kernel, rfl, by decide +kernel, by decide +kernel⟩
theorem ok_figures {f : Addr} {fd : FuncData} (F : Fun K "_figures_of" "_figures_of" sFigures f fd) : FnOk P w K mg base CX0 1 f fd ["pieces"] (spFigures K) := by
  refine F.ok scFigures (fun vs H Q E h => ?_) (fun cdv A0 outer s H vs Q E hr h => ?_)
  · obtain ⟨a, ps, rfl, _⟩ := h; rfl
  · obtain ⟨a, ps, rfl, ha, hb, hs, q⟩ := h
    have hfl := figs_len hb
    refine ⟨_, pss_one (ps_ret (pe_lc2 (own := [("piece", 1), ("height", 2)]) (vs1 := [2]) (g := gName 1) (g1 := gName 2) (tt := tYes) (tt1 := tYes) rfl scFigures.nd (pi_list (pv 0)) (blkOk_by (N := nFigures) (sc := defScope sFigures) (by decide +kernel)) (by decide) (fun _ _ _ _ _ => pg_name (i := 1) scFigures.nd rfl (.inl rfl)) (fun _ _ _ _ _ => pts_nil) (fun _ _ _ _ _ => pi_tupK (K := K) rfl (pe_ix (show IxR _ (rIxT K) from ix_tup) (pv 1) pe_int (fun _ _ => rfl))) (fun _ _ _ _ _ => pg_name (i := 2) scFigures.nd rfl (.inl rfl)) (fun _ _ _ _ _ => pts_nil) (fun _ _ _ _ _ => pv 2))), ?_⟩
    refine ⟨.ref a, rfl, a, rfl, ⟨_, SqL.of ha⟩, fun D hD => ?_⟩
    refine R4.lc2_out (walk_list (K := K) (a := a) (xs := pv' ps)) (fun i H' => H' D = some (.lst ((figs (ps.take i)).map V.int)) ∧ Same H H') ⟨upd_same, same_new hD⟩ (fun i H' _ ⟨_, s⟩ => SqL.of (s _ _ ha)) ?_ ?_
    · rintro i v H2 H2' hi ⟨hD2, s2⟩ ⟨rfl, hv⟩
      obtain ⟨p, en, rfl⟩ := of_pv hv
      obtain ⟨h1, _, _, _, _, h2, h3⟩ := (hb p (List.mem_of_getElem? en)).kp (Kp.of s2)
      have hle := flat_le (·.calls) en
      refine ⟨rfl, .ref p.t, rfl, p.t, _, 3, .ref p.ca, rfl, rfl, SqT.of h1, rfl, p.ca, rfl, ⟨_, SqT.of h2⟩, ?_⟩
      refine R4.lc2_in (walk_tup (K := K) (a := p.ca) (xs := p.calls.map V.int)) (fun j H' => H' D = some (.lst ((figs (ps.take i) ++ p.calls.take j).map V.int)) ∧ Same H H') ⟨by rw [List.take_zero, List.append_nil]; exact hD2, s2⟩ (fun j H' _ ⟨_, s⟩ => SqT.of (((hb p (List.mem_of_getElem? en)).kp (Kp.of s)).2.2.2.2.2.1)) ?_ ?_
      · rintro j x H3 H3' hj ⟨hD3, s3⟩ ⟨rfl, hx⟩
        rw [List.getElem?_map] at hx
        obtain ⟨n, ep, rfl⟩ := Option.map_eq_some_iff.mp hx
        have hjl := (List.getElem?_eq_some_iff.mp ep).1
        refine ⟨rfl, .int n, rfl, _, hD3, ?_, ?_, same_at s3 hD⟩
        · rw [List.length_map, List.length_append, List.length_take]
          exact small1000 (by show (List.flatMap _ _).length + _ ≤ _; unfold figs at hfl; omega)
        · rw [upd_same, map_snoc, List.take_add_one, ep, List.append_assoc]; rfl
      · rintro H3 ⟨hD3, s3⟩
        rw [List.length_map, List.take_length] at hD3
        exact ⟨by unfold figs; rw [flat_take _ en]; exact hD3, s3⟩
    · rintro H2 ⟨hD2, s2⟩
      rw [pv_len, List.take_length] at hD2
      exact q H2 D s2 hD hD2
end
end K34

set_option maxRecDepth 100000
set_option maxHeartbeats 8000000
namespace K34
open PySem PySem.Spec PyProof.Rows L2
/-! ### owners -/
def spans : Nat → Nat → List Bk → List (Nat × Nat × Nat)
  | _, _, [] => []
  | k, s, b :: bs => List.replicate b.ps.length (k, s, s + b.ps.length) ++ spans (k + 1) (s + b.ps.length) bs
theorem spans_len : ∀ (bs : List Bk) (k s : Nat), (spans k s bs).length = (pcs bs).length
  | [], _, _ => rfl
  | b :: bs, k, s => by
    show (_ ++ _ : List _).length = (b.ps ++ pcs bs).length
    rw [List.length_append, List.length_append, List.length_replicate, spans_len bs]
theorem spans_snoc (x : Bk) : ∀ (bs : List Bk) (k s : Nat), spans k s (bs ++ [x]) = spans k s bs ++ List.replicate x.ps.length (k + bs.length, s + (pcs bs).length, s + (pcs bs).length + x.ps.length)
  | [], k, s => by
    show List.replicate _ _ ++ spans _ _ [] = [] ++ _
    rw [List.nil_append]
    show List.replicate _ _ ++ [] = _
    rw [List.append_nil]; rfl
  | b :: bs, k, s => by
    rw [List.cons_append]
    show List.replicate _ _ ++ spans (k + 1) (s + b.ps.length) (bs ++ [x]) = (List.replicate _ _ ++ spans (k + 1) (s + b.ps.length) bs) ++ _
    rw [spans_snoc x bs, List.append_assoc]
    have e1 : k + 1 + bs.length = k + (b :: bs).length := by rw [List.length_cons]; omega
    have e2 : s + b.ps.length + (pcs bs).length = s + (pcs (b :: bs)).length := by show _ = s + (b.ps ++ pcs bs).length; rw [List.length_append]; omega
    rw [e1, e2]
theorem spans_take {bs : List Bk} {i : Nat} {b : Bk} (h : bs[i]? = some b) : spans 0 0 (bs.take (i + 1)) = spans 0 0 (bs.take i) ++ List.replicate b.ps.length (i, (pcs (bs.take i)).length, (pcs (bs.take i)).length + b.ps.length) := by
  have hl := (List.getElem?_eq_some_iff.mp h).1
  rw [List.take_add_one, h]
  show spans 0 0 (_ ++ [b]) = _
  rw [spans_snoc, List.length_take, Nat.min_eq_left (by omega), Nat.zero_add, Nat.zero_add]
def OwnT (H : Hp) (os : List V) (sp : List (Nat × Nat × Nat)) : Prop := os.length = sp.length ∧ ∀ (j k s e : Nat), sp[j]? = some (k, s, e) → ∃ t : Addr, os[j]? = some (.ref t) ∧ H t = some (.tup [.int (k : Int), .int (s : Int), .int (e : Int)])
theorem OwnT.kp {H H' : Hp} {os : List V} {sp : List (Nat × Nat × Nat)} (h : OwnT H os sp) (s : Kp H H') : OwnT H' os sp := ⟨h.1, fun j k s' e hj => let ⟨t, h1, h2⟩ := h.2 j k s' e hj; ⟨t, h1, s.tup h2⟩⟩
theorem OwnT.app {H : Hp} {os : List V} {sp : List (Nat × Nat × Nat)} (h : OwnT H os sp) {t : Addr} {k s e m : Nat} (ht : H t = some (.tup [.int (k : Int), .int (s : Int), .int (e : Int)])) : OwnT H (os ++ List.replicate m (V.ref t)) (sp ++ List.replicate m (k, s, e)) := by
  refine ⟨by rw [List.length_append, List.length_append, h.1, List.length_replicate, List.length_replicate], fun j k' s' e' hj => ?_⟩
  by_cases hlt : j < sp.length
  · rw [List.getElem?_append_left hlt] at hj
    rw [List.getElem?_append_left (by rw [h.1]; exact hlt)]
    exact h.2 j k' s' e' hj
  · rw [List.getElem?_append_right (by omega), List.getElem?_replicate] at hj
    rw [List.getElem?_append_right (by rw [h.1]; omega), List.getElem?_replicate, h.1]
    by_cases hm : j - sp.length < m
    · rw [if_pos hm] at hj ⊢
      cases hj
      exact ⟨t, rfl, ht⟩
    · rw [if_neg hm] at hj; cases hj
def dueN (bs : List Bk) : Nat := if 40 < (pcs bs).length then (pcs bs).length else if 4 < (figs (pcs bs)).length then (figs (pcs bs)).length else 0
structure Cst (mg : Str → Option Value) (t1 t2 : Tok) : Prop where
  mp : mg "MOST_PIECES" = some (.int 40 t1)
  mf : mg "MOST_FIGURES" = some (.int 4 t2)
section
variable {P : Program} {w : World} {K : PySem.W.Frag} {mg : Str → Option Value} {base : Heap} {t1 t2 : Tok}
def spOwners (K : PySem.W.Frag) : Sp := fun vs H Q _ => ∃ (a : Addr) (bs : List Bk), vs = [.ref a] ∧ Arg K H a bs ∧ BsT H bs ∧ Small bs ∧ ∀ H' p os, Same H H' → H p = none → H' p = some (.lst os) → OwnT H' os (spans 0 0 bs) → Q (.ref p) H'
abbrev nOwners : List Str := ["blocks", "owners", "index", "block", "start", "many"]
theorem scOwners : FnScope nOwners ["blocks"] (defScope sOwners) := ⟨rfl, rfl, rfl, by decide +kernel, rfl, by decide +kernel, by decide +kernel⟩
theorem ok_owners {f : Addr} {fd : FuncData} (B : Blt mg) (F : Fun K "_owners_of" "_owners_of" sOwners f fd) : FnOk P w K mg base CX0 1 f fd ["blocks"] (spOwners K) := by
  refine F.ok scOwners (fun vs H Q E h => ?_) (fun cdv A0 outer s H vs Q E hr h => ?_)
  · obtain ⟨a, bs, rfl, _⟩ := h; rfl
  · obtain ⟨a, bs, rfl, harg, hb, ⟨hs1, hs2⟩, q⟩ := h
    rcases harg with ha | ⟨rfl, ha⟩
    · refine ⟨_, (pss_cons (ps_set (i := 1) scOwners.nd rfl (.inl rfl) (pe_lst pa_nil))
      (pss_cons (ps_for (PassesOwn.never) rfl (pi_enum (by rfl) B.enumerate (pa_cons (pv 0) pa_nil)) (pg_tup rfl (pgs_cons (pg_name (i := 2) scOwners.nd rfl (.inl rfl)) (pgs_cons (pg_name (i := 3) scOwners.nd rfl (.inl rfl)) pgs_nil)))
        (pss_cons (ps_set (i := 4) scOwners.nd rfl (.inl rfl) (pe_callB call_len (by rfl) B.len PySem.boot_len (pa_cons (pv 1) pa_nil)))
        (pss_cons (ps_set (i := 5) scOwners.nd rfl (.inl rfl) (pe_callB call_len (by rfl) B.len PySem.boot_len (pa_cons (pe_ix ix_tup (pv 3) pe_int (fun _ _ => rfl)) pa_nil)))
        (pss_one (ps_expr (pe_bm PySem.F.plainAttrs_list PySem.F.slot_list_extend PySem.F.type_list_extend mt_extend (pv 1) (pa_cons (pe_op op_rep (pe_lst (pa_cons (pe_tup (pa_cons (pv 2) (pa_cons (pv 4) (pa_cons (pe_op op_add (pv 4) (pv 5)) pa_nil)))) pa_nil)) (pv 5)) pa_nil)))))))
      (pss_one (ps_ret (pv 1))))), ?_⟩
      refine ⟨Nat.zero_le _, fun O nO => ?_⟩
      have s1 : Same H (upd H O (.lst [])) := same_new nO
      have hO1 : (upd H O (.lst [])) O = some (.lst []) := upd_same
      generalize upd H O (.lst []) = H1 at s1 hO1 ⊢
      refine ⟨.ref a, rfl, a, bv bs, rfl, SqL.of (s1 _ _ ha), ?_⟩
      refine for_it (walk_enum (K := K) (a := a) (xs := bv bs)) (fun i σ H' => ∃ (y2 y3 y4 y5 : Option V) (os : List V), σ = [some (.ref a), some (.ref O), y2, y3, y4, y5] ∧ Same H H' ∧ H' O = some (.lst os) ∧ OwnT H' os (spans 0 0 (bs.take i))) ⟨none, none, none, none, [], rfl, s1, hO1, rfl, fun j k s e h => nomatch h⟩ (fun i σ H' _ ⟨_, _, _, _, _, _, sm, _⟩ => SqL.of (sm _ _ ha)) ?_ ?_
      · rintro i v σ H' H'' hi ⟨y2, y3, y4, y5, os, rfl, sm, hO, hT⟩ ⟨T, x, y, rfl, nT, rfl, hx, hy⟩
        cases hx
        obtain ⟨b, en, rfl⟩ := of_bv hy
        have sT := same_new nT (o := .tup [.int (i : Int), .ref b.t])
        have hT1 : (upd H' T (.tup [.int ((i : Nat) : Int), .ref b.t])) T = some (.tup [.int ((i : Nat) : Int), .ref b.t]) := upd_same
        generalize upd H' T (.tup [.int ((i : Nat) : Int), .ref b.t]) = H2 at sT hT1 ⊢
        have hO2 := sT _ _ hO
        have hT := hT.kp (Kp.of sT)
        have s02 := sm.trans sT
        obtain ⟨h1, h2, h3, h4⟩ := (hb b (List.mem_of_getElem? en)).kp (Kp.of s02)
        have hle := flat_le (·.ps) en
        have hosl : os.length = (pcs (bs.take i)).length := by rw [hT.1, spans_len]
        have hle2 : (pcs (bs.take i)).length + b.ps.length ≤ 200 := by unfold pcs at hs2 ⊢; omega
        refine ⟨T, _, rfl, SqT.of hT1, rfl, _, _, rfl, _, _, rfl, rfl, ?_⟩
        refine ⟨.ref O, rfl, .ref O, (pcs (bs.take i)).length, rfl, .inl ⟨_, SqL.of hO2, hosl.symm⟩, .ref b.t, rfl, b.t, _, 4, .ref b.pt, rfl, rfl, SqT.of h1, rfl, .ref b.pt, b.ps.length, rfl, .inr ⟨_, SqT.of h2, (pv_len _).symm⟩, ?_⟩
        refine ⟨.ref O, rfl, .inl ⟨rfl, _, SqL.of hO2⟩, .int (i : Int), rfl, .int (((pcs (bs.take i)).length : Nat) : Int), rfl, .int (((pcs (bs.take i)).length : Nat) : Int), rfl, .int ((b.ps.length : Nat) : Int), rfl, _, _, rfl, rfl, by show 3 ≤ sizeLine; decide, fun t nt => ⟨by show 1 ≤ sizeLine; decide, fun l nl => ?_⟩⟩
        have st := same_new nt (o := .tup [.int (i : Int), .int (((pcs (bs.take i)).length : Nat) : Int), .int ((((pcs (bs.take i)).length : Nat) : Int) + ((b.ps.length : Nat) : Int))])
        have ht : (upd H2 t (.tup [.int (i : Int), .int (((pcs (bs.take i)).length : Nat) : Int), .int ((((pcs (bs.take i)).length : Nat) : Int) + ((b.ps.length : Nat) : Int))])) t = some (.tup [.int (i : Int), .int (((pcs (bs.take i)).length : Nat) : Int), .int (((pcs (bs.take i)).length + b.ps.length : Nat) : Int)]) := by rw [upd_same, Int.natCast_add]
        have sl := same_new nl (o := .lst [.ref t])
        refine ⟨.int ((b.ps.length : Nat) : Int), rfl, l, ((b.ps.length : Nat) : Int), _, rfl, rfl, upd_same, by omega, by omega, (by show 1 * ((b.ps.length : Nat) : Int).toNat ≤ sizeLine; rw [sizeLine_eq]; omega), fun r nr => ?_⟩
        have sr := same_new nr (o := .lst (List.replicate ((b.ps.length : Nat) : Int).toNat [V.ref t]).flatten)
        have s3 := st.trans (sl.trans sr)
        have ht3 := sr _ _ (sl _ _ ht)
        have hO3 := s3 _ _ hO2
        have hfl : (List.replicate ((b.ps.length : Nat) : Int).toNat [V.ref t]).flatten = List.replicate b.ps.length (V.ref t) := by
          rw [Int.toNat_natCast]
          induction b.ps.length with
          | zero => rfl
          | succ n ih => rw [List.replicate_succ, List.flatten_cons, ih, List.replicate_succ]; rfl
        refine ⟨O, r, _, _, rfl, rfl, hO3, upd_same, (by rw [hfl, List.length_replicate, hosl, sizeLine_eq]; omega), ?_⟩
        rw [hfl] at s3 ht3 hO3 ⊢
        refine ⟨_, _, _, _, os ++ List.replicate b.ps.length (V.ref t), rfl, ?_, upd_same, ?_⟩
        · exact same_at (s02.trans s3) nO
        · rw [spans_take en]
          refine OwnT.kp ((hT.kp (Kp.of s3)).app ht3) ?_
          exact Kp.but hO3 (fun z => z) upd_but
      · rintro σ H' ⟨y2, y3, y4, y5, os, rfl, sm, hO, hT⟩
        rw [bv_len, List.take_length] at hT
        exact ⟨.ref O, rfl, q H' O os sm nO hO hT⟩
    · refine ⟨_, (pss_cons (ps_set (i := 1) scOwners.nd rfl (.inl rfl) (pe_lst pa_nil))
      (pss_cons (ps_for (PassesOwn.never) rfl (RE.pi_enumT (by rfl) B.enumerate (pa_cons (pv 0) pa_nil)) (pg_tup rfl (pgs_cons (pg_name (i := 2) scOwners.nd rfl (.inl rfl)) (pgs_cons (pg_name (i := 3) scOwners.nd rfl (.inl rfl)) pgs_nil)))
        (pss_cons (ps_set (i := 4) scOwners.nd rfl (.inl rfl) (pe_callB call_len (by rfl) B.len PySem.boot_len (pa_cons (pv 1) pa_nil)))
        (pss_cons (ps_set (i := 5) scOwners.nd rfl (.inl rfl) (pe_callB call_len (by rfl) B.len PySem.boot_len (pa_cons (pe_ix ix_tup (pv 3) pe_int (fun _ _ => rfl)) pa_nil)))
        (pss_one (ps_expr (pe_bm PySem.F.plainAttrs_list PySem.F.slot_list_extend PySem.F.type_list_extend mt_extend (pv 1) (pa_cons (pe_op op_rep (pe_lst (pa_cons (pe_tup (pa_cons (pv 2) (pa_cons (pv 4) (pa_cons (pe_op op_add (pv 4) (pv 5)) pa_nil)))) pa_nil)) (pv 5)) pa_nil)))))))
      (pss_one (ps_ret (pv 1))))), ?_⟩
      refine ⟨Nat.zero_le _, fun O nO => ?_⟩
      have s1 : Same H (upd H O (.lst [])) := same_new nO
      have hO1 : (upd H O (.lst [])) O = some (.lst []) := upd_same
      have ha1 : SqT K (upd H O (.lst [])) a [] := by
        rcases ha with (ha | ⟨o, ha⟩) | ha
        · exact .inl (.inl (s1 _ _ ha))
        · exact .inl (.inr ⟨o, s1 _ _ ha⟩)
        · exact .inr ha
      generalize upd H O (.lst []) = H1 at s1 hO1 ha1 ⊢
      refine ⟨.ref a, rfl, a, [], rfl, ha1, RE.for_enumT (K := K) (a := a) (xs := []) (fun i σ H' => σ = [some (.ref a), some (.ref O), none, none, none, none] ∧ H' = H1) ⟨rfl, rfl⟩ (fun i σ H' ⟨_, e⟩ => by rw [e]; exact ha1) (fun i x T σ H' hx => by cases hx) ?_⟩
      rintro σ H' ⟨rfl, rfl⟩
      exact ⟨.ref O, rfl, q _ O [] s1 nO hO1 ⟨rfl, fun j k s e h => nomatch h⟩⟩
/-! ### _check_sizes -/
def spSizes (K : PySem.W.Frag) (CT : Addr) : Sp := fun vs H Q E => ∃ (a : Addr) (bs : List Bk), vs = [.ref a] ∧ Arg K H a bs ∧ BsT H bs ∧ Small bs ∧ (0 < dueN bs → ∀ H1 d, Same H H1 → H1 d = none → E (.ref CT) (some d) (upd H1 d (.xd [("many", .int ((dueN bs : Nat) : Int))]))) ∧ (dueN bs = 0 → ∀ H', Same H H' → Q .non H')
abbrev nSizes : List Str := ["blocks", "pieces", "figures"]
theorem scSizes : FnScope nSizes ["blocks"] (defScope sSizes) := ⟨rfl, rfl, rfl, by decide +kernel, rfl, by decide +kernel, by decide +kernel⟩
theorem ok_sizes {CT fT f f_pieces f_figures : Addr} {fdT fd fd_pieces fd_figures : FuncData} (B : Blt mg) (Z : Cst mg t1 t2) (NT : TlE K mg CT fT fdT) (F : Fun K "_check_sizes" "_check_sizes" sSizes f fd)
    (F_pieces : Fun K "_pieces_of" "_pieces_of" sPieces f_pieces fd_pieces) (b_pieces : Binds K fd_pieces ["blocks"] []) (g_pieces : mg "_pieces_of" = some (.ref f_pieces))
    (F_figures : Fun K "_figures_of" "_figures_of" sFigures f_figures fd_figures) (b_figures : Binds K fd_figures ["pieces"] []) (g_figures : mg "_figures_of" = some (.ref f_figures)) : FnOk P w K mg base (L2N.CX P w) 3 f fd ["blocks"] (spSizes K CT) := by
  have GT : FnOk P w K mg base CX0 1 fT fdT ["self", "many"] (spEI K CT "many") := ok_TlI NT.F
  have G_pieces : FnOk P w K mg base CX0 1 f_pieces fd_pieces ["blocks"] (spPieces K) := ok_pieces F_pieces
  have G_figures : FnOk P w K mg base CX0 1 f_figures fd_figures ["pieces"] (spFigures K) := ok_figures F_figures
  refine RN.okXN F scSizes (fun vs H Q E h => ?_) (fun cdv A0 outer s H vs Q E hr h => ?_)
  · obtain ⟨a, bs, rfl, _⟩ := h; rfl
  · obtain ⟨a, bs, rfl, ha, hb, hs, qe, q⟩ := h
    have hr2 : Room 2 _ := hr
    have hr1 : Room 1 _ := hr.mono (by decide)
    refine ⟨_, (pss_cons (ps_set (i := 1) scSizes.nd rfl (.inl rfl) (pe_call G_pieces hr1 (by rfl) g_pieces F_pieces.kp b_pieces .nil pass0 (pa_cons (pv 0) pa_nil)))
      (pss_cons (ps_if (pt_cmpR op_gt (pe_callB call_len (by rfl) B.len PySem.boot_len (pa_cons (pv 1) pa_nil)) (pe_glob (v := .int 40) (by rfl) Z.mp ⟨_, rfl⟩) (nomark _)) (pss_one (L2N.ps_raise rfl (L2N.takes_of rfl rfl rfl rfl) (RN.pmk_oexN NT.oex NT.iC NT.tI GT hr2 NT.b .nil pass0 (by rfl) NT.gC (pa_cons (pe_callB call_len (by rfl) B.len PySem.boot_len (pa_cons (pv 1) pa_nil)) pa_nil)))) pss_nil)
      (pss_cons (ps_set (i := 2) scSizes.nd rfl (.inl rfl) (pe_call G_figures hr1 (by rfl) g_figures F_figures.kp b_figures .nil pass0 (pa_cons (pv 1) pa_nil)))
      (pss_one (ps_if (pt_cmpR op_gt (pe_callB call_len (by rfl) B.len PySem.boot_len (pa_cons (pv 2) pa_nil)) (pe_glob (v := .int 4) (by rfl) Z.mf ⟨_, rfl⟩) (nomark _)) (pss_one (L2N.ps_raise rfl (L2N.takes_of rfl rfl rfl rfl) (RN.pmk_oexN NT.oex NT.iC NT.tI GT hr2 NT.b .nil pass0 (by rfl) NT.gC (pa_cons (pe_callB call_len (by rfl) B.len PySem.boot_len (pa_cons (pv 2) pa_nil)) pa_nil)))) pss_nil))))), ?_⟩
    refine ⟨.ref a, rfl, a, bs, rfl, ha, hb, hs, fun H1 p s1 np hp => ?_⟩
    refine ⟨.ref p, rfl, .ref p, (pcs bs).length, rfl, .inl ⟨_, SqL.of hp, (pv_len _).symm⟩, _, 40, rfl, rfl, _, rfl, ?_⟩
    refine ite2 (fun h1 => ?_) (fun h1 => ?_)
    · have h40 : 40 < (pcs bs).length := by have := of_decide_eq_true h1; omega
      have hD : dueN bs = (pcs bs).length := by unfold dueN; rw [if_pos h40]
      rw [hD] at qe
      exact ⟨.ref p, rfl, .ref p, (pcs bs).length, rfl, .inl ⟨_, SqL.of hp, (pv_len _).symm⟩, raise_err NT.oex NT.fp fun d hd => qe (by omega) H1 d s1 hd⟩
    have n40 : ¬ 40 < (pcs bs).length := fun z => h1 (decide_eq_true (by show (((pcs bs).length : Nat) : Int) > 40; omega))
    have hbp := (hb.kp (Kp.of s1)).pcs
    refine ⟨.ref p, rfl, p, pcs bs, rfl, hp, hbp, hs.2, fun H2 g s2 ng hg => ?_⟩
    have hfl := figs_len hbp
    refine ⟨.ref g, rfl, .ref g, (figs (pcs bs)).length, rfl, .inl ⟨_, SqL.of hg, by rw [List.length_map]⟩, _, 4, rfl, rfl, _, rfl, ?_⟩
    refine ite2 (fun h2 => ?_) (fun h2 => ?_)
    · have h4 : 4 < (figs (pcs bs)).length := by have := of_decide_eq_true h2; omega
      have hD : dueN bs = (figs (pcs bs)).length := by unfold dueN; rw [if_neg n40, if_pos h4]
      rw [hD] at qe
      exact ⟨.ref g, rfl, .ref g, (figs (pcs bs)).length, rfl, .inl ⟨_, SqL.of hg, by rw [List.length_map]⟩, raise_err NT.oex NT.fp fun d hd => qe (by omega) H2 d (s1.trans s2) hd⟩
    · have n4 : ¬ 4 < (figs (pcs bs)).length := fun z => h2 (decide_eq_true (by show (((figs (pcs bs)).length : Nat) : Int) > 4; omega))
      exact q (by unfold dueN; rw [if_neg n40, if_neg n4]) H2 (s1.trans s2)
end
end K34

set_option maxRecDepth 100000
set_option maxHeartbeats 8000000
namespace K34
open PySem PySem.Spec PyProof.Rows L2
/-! ### blocks as data -/
def pcD (p : Pc) : PyData := .tuple [.int p.h, .tuple (.str p.tw :: p.tn.toList.map PyData.int), .tuple (p.notes.map PyData.int), .tuple (p.calls.map PyData.int)]
def bkD (b : Bk) : PyData := .tuple [.int b.a, .int b.b, .int b.c, .bool b.f, .tuple (b.ps.map pcD)]
def bsD (bs : List Bk) : PyData := .list (bs.map bkD)
theorem can_ints : ∀ l : List Int, PyData.canLayAll0 (l.map PyData.int) = true ∧ PyData.depthAll (l.map PyData.int) = 0
  | [] => ⟨rfl, rfl⟩
  | x :: l => by
    obtain ⟨h1, h2⟩ := can_ints l
    refine ⟨?_, ?_⟩
    · show (true && PyData.canLayAll0 (l.map PyData.int)) = true
      rw [h1]; rfl
    · show max 0 (PyData.depthAll (l.map PyData.int)) = 0
      rw [h2]; rfl
theorem can_all {l : List PyData} {n : Nat} (h : ∀ d ∈ l, d.canLay0 = true ∧ d.depth ≤ n) : PyData.canLayAll0 l = true ∧ PyData.depthAll l ≤ n := by
  induction l with
  | nil => exact ⟨rfl, Nat.zero_le _⟩
  | cons d l ih =>
    obtain ⟨h1, h2⟩ := ih fun x hx => h x (List.mem_cons_of_mem _ hx)
    obtain ⟨h3, h4⟩ := h d List.mem_cons_self
    refine ⟨?_, ?_⟩
    · show (d.canLay0 && PyData.canLayAll0 l) = true
      rw [h3, h1]; rfl
    · show max d.depth (PyData.depthAll l) ≤ n
      omega
theorem words_can : ∀ z ∈ words, PyData.canLay0 (.str z) = true := by decide +kernel
theorem pcD_can {p : Pc} (h : p.tw ∈ words) : (pcD p).canLay0 = true ∧ (pcD p).depth ≤ 2 := by
  obtain ⟨n1, n2⟩ := can_ints p.notes
  obtain ⟨c1, c2⟩ := can_ints p.calls
  obtain ⟨t1, t2⟩ := can_ints p.tn.toList
  refine ⟨?_, ?_⟩
  · show (true && ((PyData.canLay0 (.str p.tw) && PyData.canLayAll0 (p.tn.toList.map PyData.int)) && (PyData.canLayAll0 (p.notes.map PyData.int) && (PyData.canLayAll0 (p.calls.map PyData.int) && true)))) = true
    rw [words_can _ h, t1, n1, c1]; rfl
  · show max 0 (max (max 0 (PyData.depthAll (p.tn.toList.map PyData.int)) + 1) (max (PyData.depthAll (p.notes.map PyData.int) + 1) (max (PyData.depthAll (p.calls.map PyData.int) + 1) 0))) + 1 ≤ 2
    rw [t2, n2, c2]; decide
theorem bkD_can {b : Bk} (h : ∀ p ∈ b.ps, p.tw ∈ words) : (bkD b).canLay0 = true ∧ (bkD b).depth ≤ 4 := by
  obtain ⟨h1, h2⟩ := can_all (l := b.ps.map pcD) (n := 2) fun d hd => by
    obtain ⟨p, hp, rfl⟩ := List.mem_map.mp hd
    exact pcD_can (h p hp)
  refine ⟨?_, ?_⟩
  · show (true && (true && (true && (true && (PyData.canLayAll0 (b.ps.map pcD) && true))))) = true
    rw [h1]; rfl
  · show max 0 (max 0 (max 0 (max 0 (max (PyData.depthAll (b.ps.map pcD) + 1) 0)))) + 1 ≤ 4
    omega
theorem bsD_sh {H : Hp} {bs : List Bk} (h : BsT H bs) : SeqAt.shaped (bsD bs) = true := by
  obtain ⟨h1, h2⟩ := can_all (l := bs.map bkD) (n := 4) fun d hd => by
    obtain ⟨b, hb, rfl⟩ := List.mem_map.mp hd
    exact bkD_can fun p hp => ((h b hb).2.2.2 p hp).2.2.1
  show (PyData.canLayAll0 (bs.map bkD) && decide (PyData.depthAll (bs.map bkD) + 1 ≤ 64)) = true
  rw [h1, decide_eq_true (by omega)]; rfl
theorem sh_eq {d : PyData} (h : SeqAt.shaped d = true) : PyData.eqv d d = true := SeqAt.eqv_refl d (SeqAt.canLay_of_shaped h)
section
variable {K : PySem.W.Frag}
theorem dp_ints {H : Hp} : ∀ l : List Int, DpAll K H (l.map V.int) (l.map PyData.int)
  | [] => .nil
  | x :: l => .cons (.int x) (dp_ints l)
theorem dp_pc {H : Hp} {p : Pc} (h : PcT H p) : Dp K H (.ref p.t) (pcD p) :=
  .tup (SqT.of h.1) (.cons (.int _) (.cons (.tup (SqT.of h.2.1) (.cons (.str _) (dp_ints _))) (.cons (.tup (SqT.of h.2.2.2.1) (dp_ints _)) (.cons (.tup (SqT.of h.2.2.2.2.2.1) (dp_ints _)) .nil))))
theorem dp_pcs {H : Hp} : ∀ {ps : List Pc}, (∀ p ∈ ps, PcT H p) → DpAll K H (pv' ps) (ps.map pcD)
  | [], _ => .nil
  | p :: ps, h => .cons (dp_pc (h p List.mem_cons_self)) (dp_pcs fun q hq => h q (List.mem_cons_of_mem _ hq))
theorem dp_bk {H : Hp} {b : Bk} (h : BkT H b) : Dp K H (.ref b.t) (bkD b) :=
  .tup (SqT.of h.1) (.cons (.int _) (.cons (.int _) (.cons (.int _) (.cons (.bl _) (.cons (.tup (SqT.of h.2.1) (dp_pcs h.2.2.2)) .nil)))))
theorem dp_bks {H : Hp} : ∀ {bs : List Bk}, BsT H bs → DpAll K H (bv bs) (bs.map bkD)
  | [], _ => .nil
  | b :: bs, h => .cons (dp_bk (h b List.mem_cons_self)) (dp_bks fun q hq => h q (List.mem_cons_of_mem _ hq))
end
/-! ### a Galley -/
abbrev L3 : Type := Addr × Addr × Addr
def fs3 (l : L3) : List (Str × V) := [("_blocks", .ref l.1), ("_pieces", .ref l.2.1), ("_owners", .ref l.2.2)]
def GalA (C : Addr) (H : Hp) (p : Addr) (l : L3) (bs : List Bk) : Prop := ∃ (dx : Addr) (os : List V), H p = some (.ins C dx (fs3 l)) ∧ H l.1 = some (.lst (bv bs)) ∧ H l.2.1 = some (.lst (pv' (pcs bs))) ∧ H l.2.2 = some (.lst os) ∧ OwnT H os (spans 0 0 bs) ∧ BsT H bs
theorem GalA.same {C : Addr} {H H' : Hp} {p : Addr} {l : L3} {bs : List Bk} (g : GalA C H p l bs) (s : Same H H') : GalA C H' p l bs :=
  let ⟨dx, os, h1, h2, h3, h4, h5, h6⟩ := g; ⟨dx, os, s _ _ h1, s _ _ h2, s _ _ h3, s _ _ h4, h5.kp (Kp.of s), h6.kp (Kp.of s)⟩
/-- .. when one list that is none of its own has changed -/
theorem GalA.but {C : Addr} {H H' : Hp} {p g : Addr} {l : L3} {bs : List Bk} {xs : List V} (f : GalA C H p l bs) (hg : H g = some (.lst xs)) (n1 : l.1 ≠ g) (n2 : l.2.1 ≠ g) (n3 : l.2.2 ≠ g) (s : ∀ b o, b ≠ g → H b = some o → H' b = some o) : GalA C H' p l bs := by
  obtain ⟨dx, os, h1, h2, h3, h4, h5, h6⟩ := f
  have kp : Kp H H' := Kp.but hg (fun z => z) s
  exact ⟨dx, os, s _ _ (ne_of h1 hg (fun z => nomatch z)) h1, s _ _ n1 h2, s _ _ n2 h3, s _ _ n3 h4, h5.kp kp, h6.kp kp⟩
/-- .. when another instance has changed -/
theorem GalA.oth {C C' : Addr} {H H' : Hp} {p g : Addr} {l : L3} {bs : List Bk} {dx : Addr} {fs : List (Str × V)} (f : GalA C H p l bs) (hg : H g = some (.ins C' dx fs)) (n : p ≠ g) (s : ∀ b o, b ≠ g → H b = some o → H' b = some o) : GalA C H' p l bs := by
  obtain ⟨dx', os, h1, h2, h3, h4, h5, h6⟩ := f
  have kp : Kp H H' := Kp.but hg (fun z => z) s
  exact ⟨dx', os, s _ _ n h1, s _ _ (ne_of h2 hg (fun z => nomatch z)) h2, s _ _ (ne_of h3 hg (fun z => nomatch z)) h3, s _ _ (ne_of h4 hg (fun z => nomatch z)) h4, h5.kp kp, h6.kp kp⟩
theorem GalA.ins {C : Addr} {H : Hp} {p : Addr} {l : L3} {bs : List Bk} (f : GalA C H p l bs) : ∃ dx, H p = some (.ins C dx (fs3 l)) := let ⟨dx, _, h, _⟩ := f; ⟨dx, h⟩
def Fresh (H : Hp) (l : L3) : Prop := H l.1 = none ∧ H l.2.1 = none ∧ H l.2.2 = none
theorem Fresh.ne {H : Hp} {l : L3} {g : Addr} {o : HO} (f : Fresh H l) (h : H g = some o) : l.1 ≠ g ∧ l.2.1 ≠ g ∧ l.2.2 ≠ g := ⟨(fun e => by rw [← e, f.1] at h; cases h), (fun e => by rw [← e, f.2.1] at h; cases h), (fun e => by rw [← e, f.2.2] at h; cases h)⟩
theorem Fresh.same {H H' : Hp} {l : L3} (f : Fresh H' l) (s : Same H H') : Fresh H l := ⟨s.free f.1, s.free f.2.1, s.free f.2.2⟩
structure Gly (K : PySem.W.Frag) (mg : Str → Option Value) (C : Addr) : Prop where
  cl : Cls K C
  n1 : NoAttr K C "_blocks"
  n2 : NoAttr K C "_pieces"
  n3 : NoAttr K C "_owners"
  mgC : mg "Galley" = some (.ref C)
  ha : PySem.W.findIn K (.ref C) "__class__" = some (some (.builtin "object.__class__"))
  hn : PySem.W.specialIn K (.builtin "object.__class__") "__get__" = some (some (.builtin "getset_descriptor.__get__"))
  ht : PySem.W.takesIn K (.builtin "object.__class__") = some true
  hm : PySem.W.mroIn K C (.type "object") = some true
  ks : PySem.W.kitOne K (.ref C) (.ref C) = some true
  kl : PySem.W.kitOne K (.type "list") (.ref C) = some false
theorem lk1 (l : L3) : (fs3 l).lookup ("_blocks" : Str) = some (.ref l.1) := rfl
theorem lk2 (l : L3) : (fs3 l).lookup ("_pieces" : Str) = some (.ref l.2.1) := rfl
theorem lk3 (l : L3) : (fs3 l).lookup ("_owners" : Str) = some (.ref l.2.2) := rfl
theorem pf1 (l : L3) (x : Addr) : putF ("_blocks" : Str) (.ref x) (fs3 l) = fs3 (x, l.2.1, l.2.2) := rfl
theorem pf2 (l : L3) (x : Addr) : putF ("_pieces" : Str) (.ref x) (fs3 l) = fs3 (l.1, x, l.2.2) := rfl
theorem pf3 (l : L3) (x : Addr) : putF ("_owners" : Str) (.ref x) (fs3 l) = fs3 (l.1, l.2.1, x) := rfl
theorem arg_same {K : PySem.W.Frag} {H H' : Hp} {a : Addr} {bs : List Bk} (h : Arg K H a bs) (s : Same H H') : Arg K H' a bs := by
  rcases h with h | ⟨e, (h | ⟨o, h⟩) | h⟩
  · exact .inl (s _ _ h)
  · exact .inr ⟨e, .inl (.inl (s _ _ h))⟩
  · exact .inr ⟨e, .inl (.inr ⟨o, s _ _ h⟩)⟩
  · exact .inr ⟨e, .inr h⟩
theorem arg_but {K : PySem.W.Frag} {H H' : Hp} {a p C dx : Addr} {fs : List (Str × V)} {bs : List Bk} (h : Arg K H a bs) (hp : H p = some (.ins C dx fs)) (s : ∀ b o, b ≠ p → H b = some o → H' b = some o) : Arg K H' a bs := by
  rcases h with h | ⟨e, (h | ⟨o, h⟩) | h⟩
  · exact .inl (s _ _ (ne_of h hp (fun z => nomatch z)) h)
  · exact .inr ⟨e, .inl (.inl (s _ _ (ne_of h hp (fun z => nomatch z)) h))⟩
  · exact .inr ⟨e, .inl (.inr ⟨o, s _ _ (ne_of h hp (fun z => nomatch z)) h⟩)⟩
  · exact .inr ⟨e, .inr h⟩
section
variable {P : Program} {w : World} {K : PySem.W.Frag} {mg : Str → Option Value} {base : Heap} {t1 t2 : Tok}
/-! ### Galley.__init__ -/
abbrev pIn : List Str := ["self", "blocks"]
theorem scInit : FnScope pIn pIn (defScope sInit) := ⟨rfl, rfl, rfl, by decide +kernel, rfl, by decide +kernel, by decide +kernel⟩
abbrev InitD (K : PySem.W.Frag) (d0 f : Addr) (fd : FuncData) : Prop := FunD K "__init__" "Galley.__init__" (defArgs sInit) (defBody sInit) (defScope sInit) [.ref d0] [] f fd
def spInit (K : PySem.W.Frag) (C CT : Addr) : Sp := fun vs H Q E => ∃ (p dx a : Addr) (bs : List Bk), vs = [.ref p, .ref a] ∧ H p = some (.ins C dx []) ∧ Arg K H a bs ∧ BsT H bs ∧ Small bs ∧
  (0 < dueN bs → ∀ H1 d, (∀ b o, b ≠ p → H b = some o → H1 b = some o) → H1 d = none → E (.ref CT) (some d) (upd H1 d (.xd [("many", .int ((dueN bs : Nat) : Int))]))) ∧
  (dueN bs = 0 → ∀ H' l, (∀ b o, b ≠ p → H b = some o → H' b = some o) → Fresh H l → GalA C H' p l bs → Q .non H')
theorem ok_ginit {C CT d0 f f_sizes f_pieces f_owners : Addr} {fd fd_sizes fd_pieces fd_owners : FuncData} (B : Blt mg) (T : Gly K mg C) (F : InitD K d0 f fd)
    (F_sizes : Fun K "_check_sizes" "_check_sizes" sSizes f_sizes fd_sizes) (b_sizes : Binds K fd_sizes ["blocks"] []) (g_sizes : mg "_check_sizes" = some (.ref f_sizes)) (G_sizes : FnOk P w K mg base (L2N.CX P w) 3 f_sizes fd_sizes ["blocks"] (spSizes K CT))
    (F_pieces : Fun K "_pieces_of" "_pieces_of" sPieces f_pieces fd_pieces) (b_pieces : Binds K fd_pieces ["blocks"] []) (g_pieces : mg "_pieces_of" = some (.ref f_pieces))
    (F_owners : Fun K "_owners_of" "_owners_of" sOwners f_owners fd_owners) (b_owners : Binds K fd_owners ["blocks"] []) (g_owners : mg "_owners_of" = some (.ref f_owners)) : FnOk P w K mg base (L2N.CX P w) 4 f fd pIn (spInit K C CT) := by
  have G_pieces : FnOk P w K mg base CX0 1 f_pieces fd_pieces ["blocks"] (spPieces K) := ok_pieces F_pieces
  have G_owners : FnOk P w K mg base CX0 1 f_owners fd_owners ["blocks"] (spOwners K) := ok_owners B F_owners
  refine F.ok scInit (fun vs H Q E h => ?_) (fun cdv A0 outer s H vs Q E hr h => ?_)
  · obtain ⟨p, dx, a, bs, rfl, _⟩ := h; rfl
  · obtain ⟨p, dx, a, bs, rfl, hp, ha, hb, hs, qe, q⟩ := h
    have hr1 : Room 1 _ := hr.mono (by decide)
    refine ⟨_, (pss_cons (ps_expr (pe_call G_sizes hr (by rfl) g_sizes F_sizes.kp b_sizes .nil (L2N.passes_call (L2N.takes_of rfl rfl rfl rfl) (fun _ _ _ _ h => h)) (pa_cons (pv 1) pa_nil)))
      (pss_cons (ps_fld (pv 0) (pe_callTy call_list_of (by rfl) B.list (by decide +kernel) (pa_cons (pv 1) pa_nil)) rfl)
      (pss_cons (ps_fld (pv 0) (pe_call G_pieces hr1 (by rfl) g_pieces F_pieces.kp b_pieces .nil pass0 (pa_cons (pv 1) pa_nil)) rfl)
      (pss_one (ps_fld (pv 0) (pe_call G_owners hr1 (by rfl) g_owners F_owners.kp b_owners .nil pass0 (pa_cons (pv 1) pa_nil)) rfl))))), ?_⟩
    refine ⟨.ref a, rfl, a, bs, rfl, ha, hb, hs, fun h0 H1 d s1 hd => qe h0 H1 d (fun b o _ e => s1 _ _ e) hd, fun h0 H1 s1 => ?_⟩
    have hb1 := hb.kp (Kp.of s1)
    have ha1 := arg_same ha s1
    have hsq : SqL K H1 a (bv bs) ∨ SqT K H1 a (bv bs) := by
      rcases ha1 with h | ⟨rfl, h⟩
      · exact .inl (SqL.of h)
      · exact .inr h
    refine ⟨.ref a, rfl, a, bv bs, rfl, hsq, fun lb nlb => ?_⟩
    have s2 := same_new nlb (o := .lst (bv bs))
    have hlb : (upd H1 lb (.lst (bv bs))) lb = some (.lst (bv bs)) := upd_same
    generalize upd H1 lb (.lst (bv bs)) = H2 at s2 hlb ⊢
    have hp2 := s2 _ _ (s1 _ _ hp)
    have s02 := s1.trans s2
    refine ⟨.ref p, rfl, p, C, dx, [], rfl, hp2, T.cl, T.n1, (by show 0 < 1000; decide), ?_⟩
    have k3 : ∀ b o, b ≠ p → H2 b = some o → (upd H2 p (.ins C dx (putF "_blocks" (.ref lb) []))) b = some o := upd_but
    have hp3 : (upd H2 p (.ins C dx (putF "_blocks" (.ref lb) []))) p = some (.ins C dx [("_blocks", .ref lb)]) := upd_same
    generalize upd H2 p (.ins C dx (putF "_blocks" (.ref lb) [])) = H3 at k3 hp3 ⊢
    have nlbp : lb ≠ p := ne_of hlb hp2 (fun z => nomatch z)
    have kp23 : Kp H2 H3 := Kp.but hp2 (fun z => z) k3
    have ha3 : Arg K H3 a bs := arg_but (arg_same ha s02) hp2 k3
    have hb3 := (hb.kp (Kp.of s02)).kp kp23
    refine ⟨.ref a, rfl, a, bs, rfl, ha3, hb3, hs, fun H4 lp s4 nlp hlp => ?_⟩
    have hp4 := s4 _ _ hp3
    refine ⟨.ref p, rfl, p, C, dx, _, rfl, hp4, T.cl, T.n2, (by show 1 < 1000; decide), ?_⟩
    have k5 : ∀ b o, b ≠ p → H4 b = some o → (upd H4 p (.ins C dx (putF "_pieces" (.ref lp) [("_blocks", .ref lb)]))) b = some o := upd_but
    have hp5 : (upd H4 p (.ins C dx (putF "_pieces" (.ref lp) [("_blocks", .ref lb)]))) p = some (.ins C dx [("_blocks", .ref lb), ("_pieces", .ref lp)]) := upd_same
    generalize upd H4 p (.ins C dx (putF "_pieces" (.ref lp) [("_blocks", .ref lb)])) = H5 at k5 hp5 ⊢
    have nlpp : lp ≠ p := ne_of hlp hp4 (fun z => nomatch z)
    have kp45 : Kp H4 H5 := Kp.but hp4 (fun z => z) k5
    have ha5 : Arg K H5 a bs := arg_but (arg_same ha3 s4) hp4 k5
    have hb5 := (hb3.kp (Kp.of s4)).kp kp45
    refine ⟨.ref a, rfl, a, bs, rfl, ha5, hb5, hs, fun H6 lo os s6 nlo hlo hO => ?_⟩
    have hp6 := s6 _ _ hp5
    refine ⟨.ref p, rfl, p, C, dx, _, rfl, hp6, T.cl, T.n3, (by show 2 < 1000; decide), ?_⟩
    have k7 : ∀ b o, b ≠ p → H6 b = some o → (upd H6 p (.ins C dx (putF "_owners" (.ref lo) [("_blocks", .ref lb), ("_pieces", .ref lp)]))) b = some o := upd_but
    have hp7 : (upd H6 p (.ins C dx (putF "_owners" (.ref lo) [("_blocks", .ref lb), ("_pieces", .ref lp)]))) p = some (.ins C dx (fs3 (lb, lp, lo))) := upd_same
    generalize upd H6 p (.ins C dx (putF "_owners" (.ref lo) [("_blocks", .ref lb), ("_pieces", .ref lp)])) = H7 at k7 hp7 ⊢
    have kp67 : Kp H6 H7 := Kp.but hp6 (fun z => z) k7
    have kall : ∀ b o, b ≠ p → H b = some o → H7 b = some o := fun b o hne e => k7 _ _ hne (s6 _ _ (k5 _ _ hne (s4 _ _ (k3 _ _ hne (s02 _ _ e)))))
    have back : ∀ x, H5 x = none → x ≠ p → H x = none := fun x hx hne => by
      cases e : H x with
      | none => rfl
      | some o => rw [k5 _ _ hne (s4 _ _ (k3 _ _ hne (s02 _ _ e)))] at hx; cases hx
    have back3 : ∀ x, H3 x = none → x ≠ p → H x = none := fun x hx hne => by
      cases e : H x with
      | none => rfl
      | some o => rw [k3 _ _ hne (s02 _ _ e)] at hx; cases hx
    have nlop : lo ≠ p := ne_of hlo hp6 (fun z => nomatch z)
    refine q h0 H7 (lb, lp, lo) kall ⟨s1.free nlb, back3 _ nlp nlpp, back _ nlo nlop⟩ ⟨dx, os, hp7, k7 _ _ nlbp (s6 _ _ (k5 _ _ nlbp (s4 _ _ (k3 _ _ nlbp hlb)))), k7 _ _ nlpp (s6 _ _ (k5 _ _ nlpp hlp)), k7 _ _ nlop hlo, hO.kp kp67, (hb5.kp (Kp.of s6)).kp kp67⟩
end
end K34

set_option maxRecDepth 100000
set_option maxHeartbeats 8000000
namespace K34
open PySem PySem.Spec PyProof.Rows L2
theorem made_up {H : Hp} {x dx C : Addr} (nx : H x = none) (ndx : H dx = none) : Same H (upd (upd H dx (.own x)) x (.ins C dx [])) := fun b o hb => by
  rw [upd_ne (fun e => by subst e; rw [nx] at hb; cases hb), upd_ne (fun e => by subst e; rw [ndx] at hb; cases hb)]; exact hb
theorem made_same {H H' : Hp} {x dx C : Addr} (nx : H x = none) (ndx : H dx = none) (hk : ∀ b o, b ≠ x → (upd (upd H dx (.own x)) x (.ins C dx [])) b = some o → H' b = some o) : Same H H' := fun b o hb =>
  hk b o (fun e => by subst e; rw [nx] at hb; cases hb) (made_up nx ndx b o hb)
theorem passNN {X : Cx} : Passes (L2N.CX X.prog X.w) X E0 := fun _ _ _ _ _ _ _ h => by
  obtain ⟨_, _, _, _, _, _, _, _, _, _, _, _, z⟩ := h
  exact z.elim
theorem bv_app (a b : List Bk) : bv (a ++ b) = bv a ++ bv b := by unfold bv; rw [List.map_append]
theorem BsT.app {H : Hp} {a b : List Bk} (h1 : BsT H a) (h2 : BsT H b) : BsT H (a ++ b) := fun x hx => (List.mem_append.mp hx).elim (h1 x) (h2 x)
section
variable {P : Program} {w : World} {K : PySem.W.Frag} {mg : Str → Option Value} {base : Heap} {t1 t2 : Tok}
/-! ### len, iter -/
def spLen (C : Addr) : Sp := fun vs H Q _ => ∃ (p : Addr) (l : L3) (bs : List Bk), vs = [.ref p] ∧ GalA C H p l bs ∧ Q (.int (((pcs bs).length : Nat) : Int)) H
theorem scLen : FnScope ["self"] ["self"] (defScope sLen) := ⟨rfl, rfl, rfl, by decide +kernel, rfl, by decide +kernel, by decide +kernel⟩
theorem ok_len {C f : Addr} {fd : FuncData} (B : Blt mg) (T : Gly K mg C) (F : Fun K "__len__" "Galley.__len__" sLen f fd) : FnOk P w K mg base CX0 1 f fd ["self"] (spLen C) := by
  refine F.ok scLen (fun vs H Q E h => ?_) (fun cdv A0 outer s H vs Q E hr h => ?_)
  · obtain ⟨p, l, bs, rfl, _⟩ := h; rfl
  · obtain ⟨p, l, bs, rfl, ⟨dx, os, h1, h2, h3, h4, h5, h6⟩, q⟩ := h
    refine ⟨_, (pss_one (ps_ret (pe_callB call_len (by rfl) B.len PySem.boot_len (pa_cons (pe_fld (pv 0) rfl) pa_nil)))), ?_⟩
    exact ⟨.ref p, rfl, p, C, dx, fs3 l, _, rfl, h1, T.cl, T.n2, lk2 l, .ref l.2.1, (pcs bs).length, rfl, .inl ⟨_, SqL.of h3, (pv_len _).symm⟩, q⟩
theorem scIter : FnScope ["self"] ["self"] (defScope sIter) := ⟨rfl, rfl, rfl, by decide +kernel, rfl, by decide +kernel, by decide +kernel⟩
theorem ok_iter {C f : Addr} {fd : FuncData} (B : Blt mg) (T : Gly K mg C) (F : Fun K "__iter__" "Galley.__iter__" sIter f fd) : RO.FnN P w K mg base CX0 1 f fd ["self"] (RO.spIt C "_blocks") := by
  refine RO.fun_okN F scIter (fun n vs H Q E h => ?_) (fun cdv A0 outer s H vs Q E hr h => ?_)
  · obtain ⟨p, dx, l, fs, rfl, _⟩ := h; rfl
  · obtain ⟨p, dx, l, fs, rfl, hp, hf, ⟨zs, hl⟩, q⟩ := h
    refine ⟨_, (pss_one (ps_ret (pe_callB ItX.call_iterN (by rfl) B.iter (by decide +kernel) (pa_cons (pe_fld (pv 0) rfl) pa_nil)))), ?_⟩
    exact ⟨.ref p, rfl, p, C, dx, fs, _, rfl, hp, T.cl, T.n1, hf, l, zs, rfl, SqL.of hl, q⟩
/-! ### == -/
def spEq (C : Addr) : Sp := fun vs H Q _ => ∃ (p q : Addr) (l m : L3) (bs cs : List Bk), vs = [.ref p, .ref q] ∧ GalA C H p l bs ∧ GalA C H q m cs ∧ Q (.bl (PyData.eqv (bsD bs) (bsD cs))) H
abbrev pOt : List Str := ["self", "other"]
theorem scEq : FnScope pOt pOt (defScope sEq) := ⟨rfl, rfl, rfl, by decide +kernel, rfl, by decide +kernel, by decide +kernel⟩
theorem gal_isi {C : Addr} {H : Hp} {q : Addr} {m : L3} {cs : List Bk} (T : Gly K mg C) (h : GalA C H q m cs) : TyX K H (.ref q) (.ref C) := let ⟨dx, h⟩ := h.ins; .base (.ins h T.cl T.ha T.hn T.ht T.hm)
theorem ok_eq {C f : Addr} {fd : FuncData} (B : Blt mg) (T : Gly K mg C) (F : Fun K "__eq__" "Galley.__eq__" sEq f fd) : FnOk P w K mg base CX0 1 f fd pOt (spEq C) := by
  refine F.ok scEq (fun vs H Q E h => ?_) (fun cdv A0 outer s H vs Q E hr h => ?_)
  · obtain ⟨p, q, l, m, bs, cs, rfl, _⟩ := h; rfl
  · obtain ⟨p, r, l, m, bs, cs, rfl, g1, g2, q⟩ := h
    refine ⟨_, (pss_cons (ps_if (pt_not (pt_val (pe_callB call_isi (by rfl) B.isi (by decide +kernel) (pa_cons (pv 1) (pa_cons (pe_glob (v := .ref C) (by rfl) T.mgC rfl) pa_nil))))) (pss_one ps_never) pss_nil)
      (pss_one (ps_ret (pe_cmpR (op_eqD hr.units) (pe_fld (pv 0) rfl) (pe_fld (pv 1) rfl) (nomark _))))), ?_⟩
    refine ⟨.ref r, rfl, .ref r, .ref C, .ref C, .ref C, true, rfl, .own C, gal_isi T g2, T.ks, _, rfl, iteF ?_⟩
    obtain ⟨dx, os, h1, h2, _, _, _, h6⟩ := g1
    obtain ⟨dy, os', k1, k2, _, _, _, k6⟩ := g2
    refine ⟨.ref p, rfl, p, C, dx, fs3 l, .ref l.1, rfl, h1, T.cl, T.n1, lk1 l, .ref r, rfl, r, C, dy, fs3 m, .ref m.1, rfl, k1, T.cl, T.n1, lk1 m, bsD bs, bsD cs, .lst (SqL.of h2) (dp_bks h6), .lst (SqL.of k2) (dp_bks k6), bsD_sh h6, bsD_sh k6, ?_⟩
    exact q
def niR : List V → Hp → (Hp → Prop) → Prop := fun vs H Rh => ∃ (r l : Addr) (xs : List V), vs = [.ref r, .ref l] ∧ H l = some (.lst xs) ∧ Rh H
theorem ni_eq {C f : Addr} {fd : FuncData} (B : Blt mg) (T : Gly K mg C) (F : Fun K "__eq__" "Galley.__eq__" sEq f fd) (b : Binds K fd pOt []) : R7.NiOk P w K mg base 1 f niR := by
  obtain ⟨oc, od, kV, doc, pm, an, cdv, ct, osl, rfl, lk, hcd⟩ := F.ex
  refine R7.ni_of lk hcd scEq rfl b (fun vs H Rh h => ?_) B.NotImplemented (fun _ _ _ _ => by rfl) (fun A outer s H vs Rh hr h => ?_)
  · obtain ⟨r, l, xs, rfl, _⟩ := h; rfl
  · obtain ⟨r, l, xs, rfl, hl, q⟩ := h
    refine ⟨_, (pt_not (pt_val (pe_callB call_isi (by rfl) B.isi (by decide +kernel) (pa_cons (pv 1) (pa_cons (pe_glob (v := .ref C) (by rfl) T.mgC rfl) pa_nil))))), ?_⟩
    exact ⟨.ref l, rfl, .ref l, .ref C, .type "list", .ref C, false, rfl, .own C, .base (.lst hl), T.kl, _, rfl, rfl, q⟩
/-! ### + -/
def spAdd (K : PySem.W.Frag) (C CT : Addr) : Sp := fun vs H Q E => ∃ (p q : Addr) (l m : L3) (bs cs : List Bk), vs = [.ref p, .ref q] ∧ GalA C H p l bs ∧ GalA C H q m cs ∧ Small (bs ++ cs) ∧
  (0 < dueN (bs ++ cs) → ∀ H1 d, Same H H1 → H1 d = none → E (.ref CT) (some d) (upd H1 d (.xd [("many", .int ((dueN (bs ++ cs) : Nat) : Int))]))) ∧
  (dueN (bs ++ cs) = 0 → ∀ H' r l', Same H H' → H r = none → GalA C H' r l' (bs ++ cs) → Q (.ref r) H')
theorem scAdd : FnScope pOt pOt (defScope sAdd) := ⟨rfl, rfl, rfl, by decide +kernel, rfl, by decide +kernel, by decide +kernel⟩
theorem ok_add {C CT f_init f : Addr} {fd_init fd : FuncData} (B : Blt mg) (T : Gly K mg C) (M : Mk K C f_init) (F : Fun K "__add__" "Galley.__add__" sAdd f fd)
    (G_init : FnOk P w K mg base (L2N.CX P w) 4 f_init fd_init pIn (spInit K C CT)) (b_init : Binds K fd_init pIn []) : FnOk P w K mg base (L2N.CX P w) 6 f fd pOt (spAdd K C CT) := by
  refine RN.okXN F scAdd (fun vs H Q E h => ?_) (fun cdv A0 outer s H vs Q E hr h => ?_)
  · obtain ⟨p, q, l, m, bs, cs, rfl, _⟩ := h; rfl
  · obtain ⟨p, r, l, m, bs, cs, rfl, g1, g2, hs, qe, q⟩ := h
    refine ⟨_, (pss_cons (ps_if (pt_not (pt_val (pe_callB call_isi (by rfl) B.isi (by decide +kernel) (pa_cons (pv 1) (pa_cons (pe_glob (v := .ref C) (by rfl) T.mgC rfl) pa_nil))))) (pss_one ps_never) pss_nil)
      (pss_one (ps_ret (pe_make M G_init hr (by rfl) T.mgC b_init .nil (L2N.passes_call (L2N.takes_of rfl rfl rfl rfl) (fun _ _ _ _ h => h)) (pa_cons (pe_op op_cat (pe_fld (pv 0) rfl) (pe_fld (pv 1) rfl)) pa_nil))))), ?_⟩
    refine ⟨.ref r, rfl, .ref r, .ref C, .ref C, .ref C, true, rfl, .own C, gal_isi T g2, T.ks, _, rfl, iteF ?_⟩
    obtain ⟨dx, os, h1, h2, h3, h4, h5, h6⟩ := g1
    obtain ⟨dy, os', k1, k2, k3, k4, k5, k6⟩ := g2
    have e1 : (bv bs).length + (bv cs).length ≤ sizeLine := by
      have := hs.1
      rw [List.length_append] at this
      rw [bv_len, bv_len, sizeLine_eq]; omega
    refine ⟨.ref p, rfl, p, C, dx, fs3 l, .ref l.1, rfl, h1, T.cl, T.n1, lk1 l, .ref r, rfl, r, C, dy, fs3 m, .ref m.1, rfl, k1, T.cl, T.n1, lk1 m, l.1, m.1, bv bs, bv cs, rfl, rfl, h2, k2, e1, fun z nz => ?_⟩
    have s1 := same_new nz (o := .lst (bv bs ++ bv cs))
    have hz : (upd H z (.lst (bv bs ++ bv cs))) z = some (.lst (bv (bs ++ cs))) := by rw [upd_same, bv_app]
    generalize upd H z (.lst (bv bs ++ bv cs)) = H1 at s1 hz ⊢
    refine fun x dx' nx ndx hne => ?_
    have sM : Same H1 (upd (upd H1 dx' (.own x)) x (.ins C dx' [])) := made_up nx ndx
    have hb := (h6.app k6).kp (Kp.of s1)
    refine ⟨x, dx', z, bs ++ cs, rfl, upd_same, .inl (sM _ _ hz), hb.kp (Kp.of sM), hs, fun h0 H3 d hk hd => qe h0 H3 d (s1.trans (made_same nx ndx hk)) hd, fun h0 H3 l' hk hF g => ⟨rfl, q h0 H3 x l' (s1.trans (made_same nx ndx hk)) (s1.free nx) g⟩⟩
/-! ### += -/
def spIadd (K : PySem.W.Frag) (C CT : Addr) : Sp := fun vs H Q E => ∃ (p q : Addr) (l m : L3) (bs cs : List Bk), vs = [.ref p, .ref q] ∧ GalA C H p l bs ∧ GalA C H q m cs ∧ Small (bs ++ cs) ∧
  (0 < dueN (bs ++ cs) → ∀ H1 d, Same H H1 → H1 d = none → E (.ref CT) (some d) (upd H1 d (.xd [("many", .int ((dueN (bs ++ cs) : Nat) : Int))]))) ∧
  (dueN (bs ++ cs) = 0 → ∀ H' l', (∀ b o, b ≠ p → H b = some o → H' b = some o) → GalA C H' p l' (bs ++ cs) → Q (.ref p) H')
abbrev nIa : List Str := ["self", "other", "blocks"]
theorem scIadd : FnScope nIa pOt (defScope sIadd) := ⟨rfl, rfl, rfl, by decide +kernel, rfl, by decide +kernel, by decide +kernel⟩
theorem ok_iadd {C CT f f_sizes f_pieces f_owners : Addr} {fd fd_sizes fd_pieces fd_owners : FuncData} (B : Blt mg) (T : Gly K mg C) (F : Fun K "__iadd__" "Galley.__iadd__" sIadd f fd)
    (F_sizes : Fun K "_check_sizes" "_check_sizes" sSizes f_sizes fd_sizes) (b_sizes : Binds K fd_sizes ["blocks"] []) (g_sizes : mg "_check_sizes" = some (.ref f_sizes)) (G_sizes : FnOk P w K mg base (L2N.CX P w) 3 f_sizes fd_sizes ["blocks"] (spSizes K CT))
    (F_pieces : Fun K "_pieces_of" "_pieces_of" sPieces f_pieces fd_pieces) (b_pieces : Binds K fd_pieces ["blocks"] []) (g_pieces : mg "_pieces_of" = some (.ref f_pieces))
    (F_owners : Fun K "_owners_of" "_owners_of" sOwners f_owners fd_owners) (b_owners : Binds K fd_owners ["blocks"] []) (g_owners : mg "_owners_of" = some (.ref f_owners)) : FnOk P w K mg base (L2N.CX P w) 6 f fd pOt (spIadd K C CT) := by
  have G_pieces : FnOk P w K mg base CX0 1 f_pieces fd_pieces ["blocks"] (spPieces K) := ok_pieces F_pieces
  have G_owners : FnOk P w K mg base CX0 1 f_owners fd_owners ["blocks"] (spOwners K) := ok_owners B F_owners
  refine RN.okXN F scIadd (fun vs H Q E h => ?_) (fun cdv A0 outer s H vs Q E hr h => ?_)
  · obtain ⟨p, q, l, m, bs, cs, rfl, _⟩ := h; rfl
  · obtain ⟨p, r, l, m, bs, cs, rfl, g1, g2, hs, qe, q⟩ := h
    have hr1 : Room 1 _ := hr.mono (by decide)
    have hr3 : Room 3 _ := hr.mono (by decide)
    refine ⟨_, (pss_cons (ps_if (pt_not (pt_val (pe_callB call_isi (by rfl) B.isi (by decide +kernel) (pa_cons (pv 1) (pa_cons (pe_glob (v := .ref C) (by rfl) T.mgC rfl) pa_nil))))) (pss_one ps_never) pss_nil)
      (pss_cons (ps_set (i := 2) scIadd.nd rfl (.inl rfl) (pe_op op_cat (pe_fld (pv 0) rfl) (pe_fld (pv 1) rfl)))
      (pss_cons (ps_expr (pe_call G_sizes hr3 (by rfl) g_sizes F_sizes.kp b_sizes .nil (L2N.passes_call (L2N.takes_of rfl rfl rfl rfl) (fun _ _ _ _ h => h)) (pa_cons (pv 2) pa_nil)))
      (pss_cons (ps_fld (pv 0) (pv 2) rfl)
      (pss_cons (ps_fld (pv 0) (pe_call G_pieces hr1 (by rfl) g_pieces F_pieces.kp b_pieces .nil pass0 (pa_cons (pv 2) pa_nil)) rfl)
      (pss_cons (ps_fld (pv 0) (pe_call G_owners hr1 (by rfl) g_owners F_owners.kp b_owners .nil pass0 (pa_cons (pv 2) pa_nil)) rfl)
      (pss_one (ps_ret (pv 0))))))))), ?_⟩
    refine ⟨.ref r, rfl, .ref r, .ref C, .ref C, .ref C, true, rfl, .own C, gal_isi T g2, T.ks, _, rfl, iteF ?_⟩
    obtain ⟨dx, os, h1, h2, h3, h4, h5, h6⟩ := g1
    obtain ⟨dy, os', k1, k2, k3, k4, k5, k6⟩ := g2
    have e1 : (bv bs).length + (bv cs).length ≤ sizeLine := by
      have := hs.1
      rw [List.length_append] at this
      rw [bv_len, bv_len, sizeLine_eq]; omega
    refine ⟨.ref p, rfl, p, C, dx, fs3 l, .ref l.1, rfl, h1, T.cl, T.n1, lk1 l, .ref r, rfl, r, C, dy, fs3 m, .ref m.1, rfl, k1, T.cl, T.n1, lk1 m, l.1, m.1, bv bs, bv cs, rfl, rfl, h2, k2, e1, fun z nz => ?_⟩
    have s1 := same_new nz (o := .lst (bv bs ++ bv cs))
    have hz : (upd H z (.lst (bv bs ++ bv cs))) z = some (.lst (bv (bs ++ cs))) := by rw [upd_same, bv_app]
    generalize upd H z (.lst (bv bs ++ bv cs)) = H1 at s1 hz ⊢
    have hb1 := (h6.app k6).kp (Kp.of s1)
    refine ⟨.ref z, rfl, z, bs ++ cs, rfl, .inl hz, hb1, hs, fun h0 H2 d s2 hd => qe h0 H2 d (s1.trans s2) hd, fun h0 H2 s2 => ?_⟩
    have s02 := s1.trans s2
    have hp2 := s02 _ _ h1
    have hz2 := s2 _ _ hz
    refine ⟨.ref z, rfl, .ref p, rfl, p, C, dx, fs3 l, rfl, hp2, T.cl, T.n1, (by show 3 < 1000; decide), ?_⟩
    rw [pf1]
    have k3' : ∀ b o, b ≠ p → H2 b = some o → (upd H2 p (.ins C dx (fs3 (z, l.2.1, l.2.2)))) b = some o := upd_but
    have hp3 : (upd H2 p (.ins C dx (fs3 (z, l.2.1, l.2.2)))) p = some (.ins C dx (fs3 (z, l.2.1, l.2.2))) := upd_same
    generalize upd H2 p (.ins C dx (fs3 (z, l.2.1, l.2.2))) = H3 at k3' hp3 ⊢
    have nzp : z ≠ p := ne_of hz2 hp2 (fun z => nomatch z)
    have hz3 := k3' _ _ nzp hz2
    have hb3 := (hb1.kp (Kp.of s2)).kp (Kp.but hp2 (fun z => z) k3')
    refine ⟨.ref z, rfl, z, bs ++ cs, rfl, .inl hz3, hb3, hs, fun H4 lp s4 nlp hlp => ?_⟩
    have hp4 := s4 _ _ hp3
    refine ⟨.ref p, rfl, p, C, dx, _, rfl, hp4, T.cl, T.n2, (by show 3 < 1000; decide), ?_⟩
    rw [pf2]
    have k5' : ∀ b o, b ≠ p → H4 b = some o → (upd H4 p (.ins C dx (fs3 (z, lp, l.2.2)))) b = some o := upd_but
    have hp5 : (upd H4 p (.ins C dx (fs3 (z, lp, l.2.2)))) p = some (.ins C dx (fs3 (z, lp, l.2.2))) := upd_same
    generalize upd H4 p (.ins C dx (fs3 (z, lp, l.2.2))) = H5 at k5' hp5 ⊢
    have nlpp : lp ≠ p := ne_of hlp hp4 (fun z => nomatch z)
    have hz5 := k5' _ _ nzp (s4 _ _ hz3)
    have hb5 := (hb3.kp (Kp.of s4)).kp (Kp.but hp4 (fun z => z) k5')
    refine ⟨.ref z, rfl, z, bs ++ cs, rfl, .inl hz5, hb5, hs, fun H6 lo os6 s6 nlo hlo hO => ?_⟩
    have hp6 := s6 _ _ hp5
    refine ⟨.ref p, rfl, p, C, dx, _, rfl, hp6, T.cl, T.n3, (by show 3 < 1000; decide), ?_⟩
    rw [pf3]
    have k7' : ∀ b o, b ≠ p → H6 b = some o → (upd H6 p (.ins C dx (fs3 (z, lp, lo)))) b = some o := upd_but
    have hp7 : (upd H6 p (.ins C dx (fs3 (z, lp, lo)))) p = some (.ins C dx (fs3 (z, lp, lo))) := upd_same
    generalize upd H6 p (.ins C dx (fs3 (z, lp, lo))) = H7 at k7' hp7 ⊢
    have nlop : lo ≠ p := ne_of hlo hp6 (fun z => nomatch z)
    have kp67 : Kp H6 H7 := Kp.but hp6 (fun z => z) k7'
    refine ⟨.ref p, rfl, q h0 H7 (z, lp, lo) (fun b o hne e => k7' _ _ hne (s6 _ _ (k5' _ _ hne (s4 _ _ (k3' _ _ hne (s02 _ _ e)))))) ⟨dx, os6, hp7, k7' _ _ nzp (s6 _ _ hz5), k7' _ _ nlpp (s6 _ _ (k5' _ _ nlpp hlp)), k7' _ _ nlop hlo, hO.kp kp67, (hb5.kp (Kp.of s6)).kp kp67⟩⟩
/-! ### pieces, figures -/
def spPcs (C : Addr) : Sp := fun vs H Q _ => ∃ (p : Addr) (l : L3) (bs : List Bk), vs = [.ref p] ∧ GalA C H p l bs ∧ ∀ r, H r = none → Q (.ref r) (upd H r (.lst (pv' (pcs bs))))
theorem scPcs : FnScope ["self"] ["self"] (defScope sPcs) := ⟨rfl, rfl, rfl, by decide +kernel, rfl, by decide +kernel, by decide +kernel⟩
theorem ok_pcs {C f : Addr} {fd : FuncData} (B : Blt mg) (T : Gly K mg C) (F : Fun K "pieces" "Galley.pieces" sPcs f fd) : FnOk P w K mg base CX0 1 f fd ["self"] (spPcs C) := by
  refine F.ok scPcs (fun vs H Q E h => ?_) (fun cdv A0 outer s H vs Q E hr h => ?_)
  · obtain ⟨p, l, bs, rfl, _⟩ := h; rfl
  · obtain ⟨p, l, bs, rfl, ⟨dx, os, h1, h2, h3, h4, h5, h6⟩, q⟩ := h
    refine ⟨_, (pss_one (ps_ret (pe_callTy call_list_of (by rfl) B.list (by decide +kernel) (pa_cons (pe_fld (pv 0) rfl) pa_nil)))), ?_⟩
    exact ⟨.ref p, rfl, p, C, dx, fs3 l, _, rfl, h1, T.cl, T.n2, lk2 l, l.2.1, _, rfl, .inl (SqL.of h3), fun r nr => q r nr⟩
def spFgs (C : Addr) : Sp := fun vs H Q _ => ∃ (p : Addr) (l : L3) (bs : List Bk), vs = [.ref p] ∧ GalA C H p l bs ∧ (pcs bs).length ≤ 200 ∧ ∀ H' r, Same H H' → H r = none → H' r = some (.lst ((figs (pcs bs)).map V.int)) → Q (.ref r) H'
theorem scFgs : FnScope ["self"] ["self"] (defScope sFigs) := ⟨rfl, rfl, rfl, by decide +kernel, rfl, by decide +kernel, by decide +kernel⟩
theorem ok_fgs {C f f_figures : Addr} {fd fd_figures : FuncData} (B : Blt mg) (T : Gly K mg C) (F : Fun K "figures" "Galley.figures" sFigs f fd)
    (F_figures : Fun K "_figures_of" "_figures_of" sFigures f_figures fd_figures) (b_figures : Binds K fd_figures ["pieces"] []) (g_figures : mg "_figures_of" = some (.ref f_figures)) : FnOk P w K mg base CX0 2 f fd ["self"] (spFgs C) := by
  have G_figures : FnOk P w K mg base CX0 1 f_figures fd_figures ["pieces"] (spFigures K) := ok_figures F_figures
  refine F.ok scFgs (fun vs H Q E h => ?_) (fun cdv A0 outer s H vs Q E hr h => ?_)
  · obtain ⟨p, l, bs, rfl, _⟩ := h; rfl
  · obtain ⟨p, l, bs, rfl, ⟨dx, os, h1, h2, h3, h4, h5, h6⟩, hs, q⟩ := h
    refine ⟨_, (pss_one (ps_ret (pe_call G_figures hr (by rfl) g_figures F_figures.kp b_figures .nil pass0 (pa_cons (pe_fld (pv 0) rfl) pa_nil)))), ?_⟩
    exact ⟨.ref p, rfl, p, C, dx, fs3 l, _, rfl, h1, T.cl, T.n2, lk2 l, l.2.1, pcs bs, rfl, h3, h6.pcs, hs, q⟩
/-! ### block_at -/
def spBlock (C CN : Addr) : Sp := fun vs H Q E => ∃ (p : Addr) (l : L3) (bs : List Bk) (at_ : Int), vs = [.ref p, .int at_] ∧ GalA C H p l bs ∧
  (¬ (0 ≤ at_ ∧ at_ < (((pcs bs).length : Nat) : Int)) → ∀ d, H d = none → E (.ref CN) (some d) (upd H d (.xd [("number", .int at_)]))) ∧
  (∀ j : Nat, at_ = (j : Int) → ∀ k s e t, (spans 0 0 bs)[j]? = some (k, s, e) → H t = some (.tup [.int ((k : Nat) : Int), .int ((s : Nat) : Int), .int ((e : Nat) : Int)]) → Q (.ref t) H)
abbrev pBl : List Str := ["self", "piece"]
theorem scBlock : FnScope pBl pBl (defScope sBlock) := ⟨rfl, rfl, rfl, by decide +kernel, rfl, by decide +kernel, by decide +kernel⟩
theorem ok_block {C CN fN f : Addr} {fdN fd : FuncData} (B : Blt mg) (T : Gly K mg C) (NT : NnE K mg CN fN fdN) (F : Fun K "block_at" "Galley.block_at" sBlock f fd) : FnOk P w K mg base (L2N.CX P w) 3 f fd pBl (spBlock C CN) := by
  have GT : FnOk P w K mg base CX0 1 fN fdN ["self", "number"] (spEI K CN "number") := ok_NnI NT.F
  refine RN.okXN F scBlock (fun vs H Q E h => ?_) (fun cdv A0 outer s H vs Q E hr h => ?_)
  · obtain ⟨p, l, bs, at_, rfl, _⟩ := h; rfl
  · obtain ⟨p, l, bs, at_, rfl, g, qe, q⟩ := h
    have hr2 : Room 2 _ := hr
    obtain ⟨dx, os, h1, h2, h3, h4, h5, h6⟩ := g
    have hol : os.length = (pcs bs).length := by rw [h5.1, spans_len]
    refine ⟨_, (pss_cons (ps_if (pt_not (pt_chain op_le op_lt pe_int (pv 1) (pe_callB call_len (by rfl) B.len PySem.boot_len (pa_cons (pe_fld (pv 0) rfl) pa_nil))))
       (pss_one (L2N.ps_raise rfl (L2N.takes_of rfl rfl rfl rfl) (RN.pmk_oexN NT.oex NT.iC NT.tI GT hr2 NT.b .nil pass0 (by rfl) NT.gC (pa_cons (pv 1) pa_nil)))) pss_nil)
      (pss_one (ps_ret (pe_ix ix_list (pe_fld (pv 0) rfl) (pv 1) (fun _ _ => rfl))))), ?_⟩
    refine ⟨.int at_, rfl, _, _, rfl, rfl, _, rfl, ?_⟩
    have bad : ¬ (0 ≤ at_ ∧ at_ < (((pcs bs).length : Nat) : Int)) → _ := fun z => raise_err (v := .int at_) NT.oex NT.fp fun d hd => qe z d hd
    refine ite2 (fun a1 => ?_) (fun a1 => ?_)
    · have b1 := of_decide_eq_true a1
      refine ⟨.ref p, rfl, p, C, dx, fs3 l, _, rfl, h1, T.cl, T.n3, lk3 l, .ref l.2.2, os.length, rfl, .inl ⟨_, SqL.of h4, rfl⟩, _, _, rfl, rfl, _, rfl, ?_⟩
      refine ite2 (fun a2 => ?_) (fun a2 => ?_)
      · refine ⟨.int at_, rfl, bad fun z => ?_⟩
        have b2 : at_ < ((os.length : Nat) : Int) := by omega
        rw [decide_eq_true b2] at a2; cases a2
      · have b2 : at_ < ((os.length : Nat) : Int) := by
          refine Decidable.byContradiction fun z => a2 ?_
          rw [decide_eq_false z]; rfl
        obtain ⟨j, rfl⟩ := Int.eq_ofNat_of_zero_le b1
        have hj : j < (spans 0 0 bs).length := by rw [spans_len]; omega
        obtain ⟨t, e1, e2⟩ := h5.2 j _ _ _ (List.getElem?_eq_getElem hj)
        refine ⟨.ref p, rfl, p, C, dx, fs3 l, _, rfl, h1, T.cl, T.n3, lk3 l, .int (j : Int), rfl, l.2.2, os, (j : Int), _, rfl, rfl, SqL.of h4, atI_nat e1, q j rfl _ _ _ t (List.getElem?_eq_getElem hj) e2⟩
    · refine ⟨_, rfl, iteT ⟨.int at_, rfl, bad fun z => a1 (decide_eq_true z.1)⟩⟩
end
end K34

set_option maxRecDepth 100000
set_option maxHeartbeats 8000000
namespace K34
open PySem PySem.Spec PyProof.Rows L2
/-! ### tuples of the heap cut and joined -/
def rSlH : V → Option Int → Option Int → Hp → VK → Prop := fun x lo hi H Q => ∃ a xs, x = .ref a ∧ H a = some (.tup xs) ∧ ∀ H' p, Same H H' → H' p = some (.tup (cutV xs lo hi)) → Q (.ref p) H'
theorem sl_tupH {X : Cx} : SlR X rSlH := by
  intro pins s σ H x v vl vu lo hi sl Q I rx hs pl pu h
  obtain ⟨a, xs, rfl, hx, q⟩ := h
  refine sl_tupA pins s σ H _ v vl vu lo hi sl Q I rx hs pl pu ⟨a, xs, rfl, SqT.of hx, fun hw => q H a (Same.refl H) ?_, fun _ p np => q _ p (same_new np) upd_same⟩
  have e : cutV xs lo hi = xs := by
    unfold cutV
    rw [hw.1, hw.2, List.drop_zero, Nat.sub_zero, List.take_length]
  rw [e]; exact hx
theorem cutV_to (xs : List V) {m : Nat} (h : m ≤ xs.length) : cutV xs none (some (m : Int)) = xs.take m := by
  unfold cutV
  rw [HT.sIx_none, HT.sIx_nat, Nat.min_eq_left h]
  show (xs.drop 0).take (m - 0) = _
  rw [List.drop_zero, Nat.sub_zero]
theorem cutV_mid (xs : List V) {a b : Nat} (ha : a ≤ xs.length) (h : b ≤ xs.length) : cutV xs (some (a : Int)) (some (b : Int)) = (xs.drop a).take (b - a) := by
  unfold cutV
  rw [HT.sIx_nat, HT.sIx_nat, Nat.min_eq_left h, Nat.min_eq_left ha]
theorem tab6 {xs : List Int} (hl : xs.length = 6) (hx : ∀ x ∈ xs, 0 ≤ x ∧ x ≤ 4) {d : Int} (hd : 0 ≤ d) : ∃ k : Nat, k ≤ 4 ∧ atI (xs.map V.int) (if 5 < d then 5 else d) = some (.int (k : Int)) := by
  obtain ⟨m, hm, e⟩ : ∃ m : Nat, m < 6 ∧ (if 5 < d then 5 else d) = (m : Int) := by
    by_cases h : 5 < d
    · exact ⟨5, by omega, by rw [if_pos h]; rfl⟩
    · exact ⟨d.toNat, by omega, by rw [if_neg h]; omega⟩
  obtain ⟨x, hg⟩ : ∃ x, xs[m]? = some x := ⟨_, List.getElem?_eq_getElem (by omega)⟩
  obtain ⟨h1, h2⟩ := hx x (List.mem_of_getElem? hg)
  refine ⟨x.toNat, by omega, ?_⟩
  rw [e]
  refine atI_nat ?_
  rw [List.getElem?_map, hg]
  show some (V.int x) = some (V.int _)
  rw [show ((x.toNat : Nat) : Int) = x from by omega]
section
variable {P : Program} {w : World} {K : PySem.W.Frag} {mg : Str → Option Value} {base : Heap} {t1 t2 : Tok}
/-! ### _law_made_piece -/
def spMade : Sp := fun vs H Q _ => ∃ (r : Addr) (rs : List Int) (la : Bool) (le tall : Int), vs = [.ref r, .bl la, .int le, .int tall] ∧ H r = some (.lst (rs.map V.int)) ∧ rs.length = 7 ∧ (∀ x ∈ rs, 0 ≤ x) ∧ 0 ≤ le ∧
  ∀ H' (p : Pc), Same H H' → PcT H' p → (p.calls.length : Int) ≤ le → Q (.ref p.t) H'
abbrev pMp : List Str := ["_law_row_here", "_law_last", "_law_left", "_law_tall"]
abbrev nMp : List Str := ["_law_row_here", "_law_last", "_law_left", "_law_tall", "_law_tie", "_law_notes", "_law_calls"]
theorem scMade : FnScope nMp pMp (defScope sPiece) := ⟨rfl, rfl, rfl, by decide +kernel, rfl, by decide +kernel, by decide +kernel⟩
theorem ok_made_piece {f : Addr} {fd : FuncData} (B : Blt mg) (F : Fun K "_law_made_piece" "_law_made_piece" sPiece f fd) : FnOk P w K mg base CX0 1 f fd pMp spMade := by
  refine F.ok scMade (fun vs H Q E h => ?_) (fun cdv A0 outer s H vs Q E hr h => ?_)
  · obtain ⟨r, rs, la, le, tall, rfl, _⟩ := h; rfl
  · obtain ⟨r, rs, la, le, tall, rfl, hR, hl, hnn, hle, q⟩ := h
    refine ⟨_, (pss_cons (ps_set (i := 4) scMade.nd rfl (.inl rfl) (pe_tup (pa_cons pe_str (pa_cons (pe_ix ix_list (pv 0) pe_int (fun _ _ => rfl)) pa_nil))))
      (Evl.pss_cut (ps_if (pt_val (pv 1))
      (pss_one (ps_set (i := 4) scMade.nd rfl (.inl rfl) (pe_tup (pa_cons pe_str pa_nil))))
      (pss_one (ps_if (pt_cmpR op_eq (pe_ix ix_list (pv 0) pe_int (fun _ _ => rfl)) pe_int (nomark _))
       (pss_one (ps_set (i := 4) scMade.nd rfl (.inl rfl) (pe_tup (pa_cons pe_str (pa_cons (pe_ix ix_list (pv 0) pe_int (fun _ _ => rfl)) pa_nil)))))
       pss_nil)))
      (pss_cons (ps_set (i := 5) scMade.nd rfl (.inl rfl) (pe_slice sl_tupH (pe_tup (pa_cons (pe_op op_add (pe_ix ix_list (pv 0) pe_int (fun _ _ => rfl)) pe_int) (pa_cons (pe_op op_sub (pv 3) (pe_ix ix_list (pv 0) pe_int (fun _ _ => rfl))) (pa_cons pe_int (pa_cons (pv 3) pa_nil))))) po_none (po_some (pe_ix ix_list (pe_lst (pa_cons pe_int (pa_cons pe_int (pa_cons pe_int (pa_cons pe_int (pa_cons pe_int (pa_cons pe_int pa_nil))))))) (pe_callB (call_min2 rfl) (by rfl) B.min (by decide +kernel) (pa_cons (pe_ix ix_list (pv 0) pe_int (fun _ _ => rfl)) (pa_cons pe_int pa_nil))) (fun _ _ => rfl)))))
      (pss_cons (ps_set (i := 6) scMade.nd rfl (.inl rfl) (pe_slice sl_tupH (pe_tup (pa_cons (pe_op op_add (pe_ix ix_list (pv 0) pe_int (fun _ _ => rfl)) pe_int) (pa_cons (pe_op op_sub (pv 3) (pe_ix ix_list (pv 0) pe_int (fun _ _ => rfl))) (pa_cons pe_int (pa_cons (pv 3) pa_nil))))) po_none (po_some (pe_callB (call_min2 rfl) (by rfl) B.min (by decide +kernel) (pa_cons (pv 2) (pa_cons (pe_ix ix_list (pe_lst (pa_cons pe_int (pa_cons pe_int (pa_cons pe_int (pa_cons pe_int (pa_cons pe_int (pa_cons pe_int pa_nil))))))) (pe_callB (call_min2 rfl) (by rfl) B.min (by decide +kernel) (pa_cons (pe_ix ix_list (pv 0) pe_int (fun _ _ => rfl)) (pa_cons pe_int pa_nil))) (fun _ _ => rfl)) pa_nil))))))
      (pss_one (ps_ret (pe_tup (pa_cons (pe_op op_add (pe_ix ix_list (pv 0) pe_int (fun _ _ => rfl)) pe_int) (pa_cons (pv 4) (pa_cons (pv 5) (pa_cons (pv 6) pa_nil))))))))))), ?_⟩
    match rs, hl with
    | [a, b, c, d, e, f', g], _ =>
    have nd : 0 ≤ d := hnn _ (by simp)
    have nf : 0 ≤ f' := hnn _ (by simp)
    refine ⟨.ref r, rfl, r, _, 2, _, rfl, rfl, SqL.of hR, rfl, by show 2 ≤ sizeLine; decide, fun t0 n0 => ?_⟩
    have s0 := same_new n0 (o := .tup [.str (Str.ofString "blank"), .int c])
    have ht0 : (upd H t0 (.tup [.str (Str.ofString "blank"), .int c])) t0 = some (.tup [.str (Str.ofString "blank"), .int c]) := upd_same
    generalize upd H t0 (.tup [.str (Str.ofString "blank"), .int c]) = H0 at s0 ht0 ⊢
    have hR0 := s0 _ _ hR
    refine ⟨fun σ' H' => ∃ (ti : Addr) (tw : Str) (tn : Option Int), σ' = [some (.ref r), some (.bl la), some (.int le), some (.int tall), some (.ref ti), none, none] ∧ Same H H' ∧ H' ti = some (.tup (.str tw :: tn.toList.map V.int)) ∧ tw ∈ words, ?_, ?_⟩
    · refine ⟨.bl la, rfl, la, rfl, ite2 (fun _ => ?_) (fun _ => ?_)⟩
      · refine ⟨by show 1 ≤ sizeLine; decide, fun t nt => ⟨t, Str.ofString "end", none, rfl, s0.trans (same_new nt), upd_same, by decide +kernel⟩⟩
      · refine ⟨.ref r, rfl, r, _, 1, _, rfl, rfl, SqL.of hR0, rfl, rfl, _, rfl, ite2 (fun _ => ?_) (fun _ => ?_)⟩
        · refine ⟨.ref r, rfl, r, _, 2, _, rfl, rfl, SqL.of hR0, rfl, by show 2 ≤ sizeLine; decide, fun t nt => ⟨t, Str.ofString "joint", some c, rfl, s0.trans (same_new nt), upd_same, by decide +kernel⟩⟩
        · exact ⟨t0, Str.ofString "blank", some c, rfl, s0, ht0, by decide +kernel⟩
    rintro σ' H1 ⟨ti, tw, tn, rfl, s1, hti, htw⟩
    have hR1 := s1 _ _ hR
    obtain ⟨k1, hk1, ek1⟩ := tab6 (xs := [2, 1, 3, 4, 1, 0]) rfl (by decide) nd
    obtain ⟨k2, hk2, ek2⟩ := tab6 (xs := [1, 2, 4, 3, 1, 0]) rfl (by decide) nf
    refine ⟨.ref r, rfl, r, _, 4, _, rfl, rfl, SqL.of hR1, rfl, _, _, rfl, rfl, .int tall, rfl, .ref r, rfl, r, _, 4, _, rfl, rfl, SqL.of hR1, rfl, _, _, rfl, rfl, .int tall, rfl, by show 4 ≤ sizeLine; decide, fun t2 n2 => ?_⟩
    have s2 := same_new n2 (o := .tup ([e + 1, tall - e, 1, tall].map V.int))
    have ht2 : (upd H1 t2 (.tup ([e + 1, tall - e, 1, tall].map V.int))) t2 = some (.tup ([e + 1, tall - e, 1, tall].map V.int)) := upd_same
    refine ⟨by show 6 ≤ sizeLine; decide, fun l1 nl1 => ?_⟩
    have s3 := same_new nl1 (o := .lst (([2, 1, 3, 4, 1, 0] : List Int).map V.int))
    have hl1 : (upd (upd H1 t2 (.tup ([e + 1, tall - e, 1, tall].map V.int))) l1 (.lst (([2, 1, 3, 4, 1, 0] : List Int).map V.int))) l1 = some (.lst (([2, 1, 3, 4, 1, 0] : List Int).map V.int)) := upd_same
    have hR3 := s3 _ _ (s2 _ _ hR1)
    refine ⟨.ref r, rfl, r, _, 3, _, rfl, rfl, SqL.of hR3, rfl, d, 5, rfl, l1, _, _, _, rfl, rfl, SqL.of hl1, ek1, _, rfl, t2, _, rfl, s3 _ _ ht2, fun H4 no s4 hno => ?_⟩
    rw [cutV_to _ (by show k1 ≤ 4; exact hk1), ← List.map_take] at hno
    have s14 := s2.trans (s3.trans s4)
    clear hl1 ek1
    have hR4 := s14 _ _ hR1
    have hti4 := s14 _ _ hti
    have s04 := s1.trans s14
    clear s14 s3 s4 s2
    refine ⟨.ref r, rfl, r, _, 6, _, rfl, rfl, SqL.of hR4, rfl, _, _, rfl, rfl, .int tall, rfl, .ref r, rfl, r, _, 6, _, rfl, rfl, SqL.of hR4, rfl, _, _, rfl, rfl, .int tall, rfl, by show 4 ≤ sizeLine; decide, fun t5 n5 => ?_⟩
    have s5 := same_new n5 (o := .tup ([g + 1, tall - g, 1, tall].map V.int))
    have ht5 : (upd H4 t5 (.tup ([g + 1, tall - g, 1, tall].map V.int))) t5 = some (.tup ([g + 1, tall - g, 1, tall].map V.int)) := upd_same
    refine ⟨.int le, rfl, ?_⟩
    refine ⟨by show 6 ≤ sizeLine; decide, fun l2 nl2 => ?_⟩
    have s6 := same_new nl2 (o := .lst (([1, 2, 4, 3, 1, 0] : List Int).map V.int))
    have hl2 : (upd (upd H4 t5 (.tup ([g + 1, tall - g, 1, tall].map V.int))) l2 (.lst (([1, 2, 4, 3, 1, 0] : List Int).map V.int))) l2 = some (.lst (([1, 2, 4, 3, 1, 0] : List Int).map V.int)) := upd_same
    have hR6 := s6 _ _ (s5 _ _ hR4)
    refine ⟨.ref r, rfl, r, _, 5, _, rfl, rfl, SqL.of hR6, rfl, f', 5, rfl, l2, _, _, _, rfl, rfl, SqL.of hl2, ek2, le, (k2 : Int), rfl, ?_⟩
    obtain ⟨k3, hk3, hk3', ek3⟩ : ∃ k3 : Nat, k3 ≤ 4 ∧ (k3 : Int) ≤ le ∧ (if (k2 : Int) < le then (k2 : Int) else le) = (k3 : Int) := by
      by_cases h : (k2 : Int) < le
      · exact ⟨k2, hk2, by omega, by rw [if_pos h]⟩
      · exact ⟨le.toNat, by omega, by omega, by rw [if_neg h]; omega⟩
    rw [ek3]
    refine ⟨_, rfl, t5, _, rfl, s6 _ _ ht5, fun H7 ca s7 hca => ?_⟩
    rw [cutV_to _ (by show k3 ≤ 4; exact hk3), ← List.map_take] at hca
    have s47 := s5.trans (s6.trans s7)
    have hR7 := s47 _ _ hR4
    refine ⟨.ref r, rfl, r, _, 0, _, rfl, rfl, SqL.of hR7, rfl, _, _, rfl, rfl, .ref ti, rfl, .ref no, rfl, .ref ca, rfl, by show 4 ≤ sizeLine; decide, fun t nt => ?_⟩
    have s8 := same_new nt (o := .tup [.int (a + 1), .ref ti, .ref no, .ref ca])
    refine q _ ⟨t, a + 1, ti, tw, tn, no, _, ca, _⟩ (s04.trans (s47.trans s8)) ⟨upd_same, s8 _ _ (s47 _ _ hti4), htw, s8 _ _ (s47 _ _ hno), ?_, s8 _ _ hca, ?_⟩ ?_
    · show (List.take _ _).length ≤ 4
      rw [List.length_take]; show min k1 4 ≤ 4; omega
    · show (List.take _ _).length ≤ 4
      rw [List.length_take]; show min k3 4 ≤ 4; omega
    · show ((List.take _ _).length : Int) ≤ le
      rw [List.length_take]; show ((min k3 4 : Nat) : Int) ≤ le; omega
end
end K34

set_option maxRecDepth 100000
set_option maxHeartbeats 8000000
namespace K34
open PySem PySem.Spec PyProof.Rows L2
def seg (wide tall : Int) : List Int := [wide, 3, wide + 1, 16, tall, 12, tall]
def lims (wide tall : Int) (k : Nat) : List Int := [tall, wide + 1, tall + 1, 6, 2] ++ (List.replicate k (seg wide tall)).flatten
theorem lims_succ (wide tall : Int) (k : Nat) : lims wide tall (k + 1) = lims wide tall k ++ seg wide tall := by
  unfold lims
  rw [List.replicate_succ', List.flatten_append, List.append_assoc]
  simp
theorem lims_len (wide tall : Int) (k : Nat) : (lims wide tall k).length = 5 + 7 * k := by
  induction k with
  | zero => rfl
  | succ k ih => rw [lims_succ, List.length_append, ih]; show 5 + 7 * k + 7 = _; omega
theorem lims_pos {wide tall : Int} (hw : 0 < wide ∧ wide < 3000) (ht : 0 < tall ∧ tall < 3000) (k : Nat) : ∀ l ∈ lims wide tall k, 0 < l ∧ l < 1000000 := by
  induction k with
  | zero =>
    intro l hl
    have : l = tall ∨ l = wide + 1 ∨ l = tall + 1 ∨ l = 6 ∨ l = 2 := by simpa [lims] using hl
    omega
  | succ k ih =>
    intro l hl
    rw [lims_succ, List.mem_append] at hl
    rcases hl with hl | hl
    · exact ih l hl
    · have : l = wide ∨ l = 3 ∨ l = wide + 1 ∨ l = 16 ∨ l = tall ∨ l = 12 ∨ l = tall := by simpa [seg] using hl
      omega
theorem row_nn {ls rs : List Int} (h : RowOf ls rs) : ∀ x ∈ rs, 0 ≤ x := fun x hx => by
  obtain ⟨i, hi⟩ := List.mem_iff_getElem?.mp hx
  have hl := (List.getElem?_eq_some_iff.mp hi).1
  rw [h.1] at hl
  obtain ⟨r, h1, h2, _⟩ := h.2 i _ (List.getElem?_eq_getElem hl)
  rw [hi] at h1; cases h1; exact h2
theorem row_get {ls rs : List Int} {i : Nat} {l : Int} (h : RowOf ls rs) (e : ls[i]? = some l) : ∃ r, atI (rs.map V.int) (i : Int) = some (.int r) ∧ 0 ≤ r ∧ r < l := by
  obtain ⟨r, h1, h2, h3⟩ := h.2 i l e
  exact ⟨r, atI_nat (by rw [List.getElem?_map, h1]; rfl), h2, h3⟩
theorem bv_snoc {bs : List Bk} {b : Bk} : bv bs ++ [.ref b.t] = bv (bs ++ [b]) := by unfold bv; rw [List.map_append]; rfl
theorem pcs_snoc {bs : List Bk} {b : Bk} : pcs (bs ++ [b]) = pcs bs ++ b.ps := by unfold pcs; rw [List.flatMap_append]; simp
section
variable {P : Program} {w : World} {K : PySem.W.Frag} {mg : Str → Option Value} {base : Heap} {t1 t2 : Tok}
/-! ### _law_made_blocks -/
def spMb : Sp := fun vs H Q _ => ∃ (c : Addr) (ns : List Int) (many : Nat) (cap wide tall : Int), vs = [.ref c, .int (many : Int), .int cap, .int wide, .int tall] ∧ H c = some (.lst (ns.map V.int)) ∧ 1 ≤ ns.length ∧ ns.length ≤ 63 ∧ many ≤ 45 ∧ 0 ≤ cap ∧ (0 < wide ∧ wide < 3000) ∧ (0 < tall ∧ tall < 3000) ∧
  ∀ H' p bs, Same H H' → H p = none → H' p = some (.lst (bv bs)) → BsT H' bs → bs.length ≤ 45 → (pcs bs).length ≤ 45 → (∀ b ∈ bs, 1 ≤ b.ps.length) → Q (.ref p) H'
abbrev pMb : List Str := ["_law_cells", "_law_many", "_law_cap", "_law_wide", "_law_tall"]
abbrev nMb : List Str := ["_law_cells", "_law_many", "_law_cap", "_law_wide", "_law_tall", "_law_limits", "_law_k", "_law_made", "_law_count", "_law_left", "_law_turn", "_law_cell_here", "_law_row_here", "_law_size", "_law_pieces", "_law_piece"]
theorem scBlocks : FnScope nMb pMb (defScope sBlocks) := ⟨rfl, rfl, rfl, by decide +kernel, rfl, by decide +kernel, by decide +kernel⟩
theorem ok_made_blocks {f f_row f_made_piece : Addr} {fd fd_row fd_made_piece : FuncData} (B : Blt mg) (F : Fun K "_law_made_blocks" "_law_made_blocks" sBlocks f fd)
    (F_row : Fun K "_law_row" "_law_row" sRow f_row fd_row) (b_row : Binds K fd_row ["_law_cell_here", "_law_limits"] []) (g_row : mg "_law_row" = some (.ref f_row))
    (F_made_piece : Fun K "_law_made_piece" "_law_made_piece" sPiece f_made_piece fd_made_piece) (b_made_piece : Binds K fd_made_piece pMp []) (g_made_piece : mg "_law_made_piece" = some (.ref f_made_piece)) : FnOk P w K mg base CX0 2 f fd pMb spMb := by
  have G_row : FnOk P w K mg base CX0 1 f_row fd_row ["_law_cell_here", "_law_limits"] (spRow K) := ok_row B F_row
  have G_made_piece : FnOk P w K mg base CX0 1 f_made_piece fd_made_piece pMp spMade := ok_made_piece B F_made_piece
  refine F.ok scBlocks (fun vs H Q E h => ?_) (fun cdv A0 outer s H vs Q E hr h => ?_)
  · obtain ⟨c, ns, many, cap, wide, tall, rfl, _⟩ := h; rfl
  · obtain ⟨c, ns, many, cap, wide, tall, rfl, hC, hn1, hn2, hm, hcap, hw, htl, q⟩ := h
    have hr1 : Room 1 _ := hr
    refine ⟨_, (pss_cons (ps_set (i := 5) scBlocks.nd rfl (.inl rfl) (pe_lst (pa_cons (pv 4) (pa_cons (pe_op op_add (pv 3) pe_int) (pa_cons (pe_op op_add (pv 4) pe_int) (pa_cons pe_int (pa_cons pe_int pa_nil)))))))
      (pss_cons (ps_for (PassesOwn.never) rfl (pi_range1 (by rfl) B.range (pa_cons pe_int pa_nil)) (pg_name (i := 6) scBlocks.nd rfl (.inl rfl))
      (pss_one (ps_set (i := 5) scBlocks.nd rfl (.inl rfl) (pe_op op_cat (pv 5) (pe_lst (pa_cons (pv 3) (pa_cons pe_int (pa_cons (pe_op op_add (pv 3) pe_int) (pa_cons pe_int (pa_cons (pv 4) (pa_cons pe_int (pa_cons (pv 4) pa_nil))))))))))))
      (pss_cons (ps_par3 (i := 7) (j := 8) (l := 9) (by rfl) scBlocks.nd rfl rfl rfl (by decide) (by decide) (by decide) rfl rfl rfl (pa_cons (pe_lst pa_nil) (pa_cons pe_int (pa_cons (pv 2) pa_nil))) (by rfl))
      (pss_cons (ps_for (PassesOwn.never) rfl (pi_range1 (by rfl) B.range (pa_cons (pv 1) pa_nil)) (pg_name (i := 10) scBlocks.nd rfl (.inl rfl))
      (pss_one (ps_if (pt_cmpR op_lt (pv 8) (pv 1) (nomark _))
       (pss_cons (ps_set (i := 11) scBlocks.nd rfl (.inl rfl) (pe_ix ix_list (pv 0) (pe_op op_modN (pe_callTy call_int1 (by rfl) B.int (by decide +kernel) (pa_cons (pv 10) pa_nil)) (pe_callB call_len (by rfl) B.len PySem.boot_len (pa_cons (pv 0) pa_nil))) (fun _ _ => rfl)))
        (pss_cons (ps_set (i := 12) scBlocks.nd rfl (.inl rfl) (pe_call G_row hr1 (by rfl) g_row F_row.kp b_row .nil pass0 (pa_cons (pe_op op_add (pv 11) (pe_op op_mul pe_int (pe_op op_fdivN (pv 10) (pe_callB call_len (by rfl) B.len PySem.boot_len (pa_cons (pv 0) pa_nil))))) (pa_cons (pv 5) pa_nil))))
        (pss_cons (ps_set (i := 13) scBlocks.nd rfl (.inl rfl) (pe_callB (call_min2 rfl) (by rfl) B.min (by decide +kernel) (pa_cons (pe_op op_add (pe_ix ix_list (pv 12) pe_int (fun _ _ => rfl)) pe_int) (pa_cons (pe_op op_sub (pv 1) (pv 8)) pa_nil))))
        (pss_cons (ps_set (i := 14) scBlocks.nd rfl (.inl rfl) (pe_lst pa_nil))
        (pss_cons (ps_for (PassesOwn.never) rfl (pi_range1 (by rfl) B.range (pa_cons (pv 13) pa_nil)) (pg_name (i := 6) scBlocks.nd rfl (.inl rfl))
        (pss_cons (ps_set (i := 15) scBlocks.nd rfl (.inl rfl) (pe_call G_made_piece hr1 (by rfl) g_made_piece F_made_piece.kp b_made_piece .nil pass0 (pa_cons (pe_slice sl_list (pv 12) (po_some (pe_op op_add (pe_op op_mul pe_int (pv 6)) pe_int)) (po_some (pe_op op_add (pe_op op_mul pe_int (pv 6)) pe_int))) (pa_cons (pe_cmpR op_eq (pv 6) (pe_op op_sub (pv 13) pe_int) (nomark _)) (pa_cons (pv 9) (pa_cons (pv 4) pa_nil))))))
         (pss_cons (ps_set (i := 9) scBlocks.nd rfl (.inl rfl) (pe_op op_sub (pv 9) (pe_callB call_len (by rfl) B.len PySem.boot_len (pa_cons (pe_ix ix_tup (pv 15) pe_int (fun _ _ => rfl)) pa_nil))))
         (pss_one (ps_expr (pe_bm PySem.F.plainAttrs_list PySem.F.slot_list_append PySem.F.type_list_append mt_append (pv 14) (pa_cons (pv 15) pa_nil)))))))
        (pss_cons (ps_expr (pe_bm PySem.F.plainAttrs_list PySem.F.slot_list_append PySem.F.type_list_append mt_append (pv 7) (pa_cons (pe_tup (pa_cons (pe_op op_add (pe_ix ix_list (pv 12) pe_int (fun _ _ => rfl)) pe_int) (pa_cons (pe_ix ix_list (pv 12) pe_int (fun _ _ => rfl)) (pa_cons (pe_ix ix_list (pv 12) pe_int (fun _ _ => rfl)) (pa_cons (pe_cmpR op_eq (pe_ix ix_list (pv 12) pe_int (fun _ _ => rfl)) pe_int (nomark _)) (pa_cons (pe_callTy call_tuple_of (by rfl) B.tuple (by decide +kernel) (pa_cons (pv 14) pa_nil)) pa_nil)))))) pa_nil)))
        (pss_one (ps_set (i := 8) scBlocks.nd rfl (.inl rfl) (pe_op op_add (pv 8) (pv 13))))))))))
       pss_nil)))
      (pss_one (ps_ret (pv 7))))))), ?_⟩
    refine ⟨.int tall, rfl, .int wide, rfl, _, _, rfl, rfl, .int tall, rfl, _, _, rfl, rfl, by show 5 ≤ sizeLine; decide, fun L0 nL0 => ?_⟩
    refine ⟨6, rfl, by decide, by decide, ?_⟩
    refine for_range (lo := 0) (n := 6) (fun k σ H' => ∃ (y6 : Option V) (L : Addr), σ = [some (.ref c), some (.int (many : Int)), some (.int cap), some (.int wide), some (.int tall), some (.ref L), y6, none, none, none, none, none, none, none, none, none] ∧ Same H H' ∧ H' L = some (.lst ((lims wide tall k).map V.int))) ⟨none, L0, rfl, same_new nL0, upd_same⟩ ?_ ?_
    · rintro k σ H' hk ⟨y6, L, rfl, sm, hL⟩
      refine ⟨.ref L, rfl, .int wide, rfl, .int wide, rfl, _, _, rfl, rfl, .int tall, rfl, .int tall, rfl, by show 7 ≤ sizeLine; decide, fun z nz => ?_⟩
      have sz := same_new nz (o := .lst ((seg wide tall).map V.int))
      refine ⟨L, z, _, (seg wide tall).map V.int, rfl, rfl, sz _ _ hL, upd_same, (by rw [List.length_map, lims_len, sizeLine_eq]; show 5 + 7 * k + 7 ≤ _; omega), fun r nr => ?_⟩
      refine ⟨_, r, rfl, sm.trans (sz.trans (same_new nr)), ?_⟩
      rw [lims_succ, List.map_append]; exact upd_same
    rintro σ H1 ⟨y6, L, rfl, s1, hL⟩
    have hll := lims_len wide tall 6
    have hlp := lims_pos hw htl 6
    have l0 : (lims wide tall 6)[0]? = some tall := rfl
    have l1 : (lims wide tall 6)[1]? = some (wide + 1) := rfl
    have l2 : (lims wide tall 6)[2]? = some (tall + 1) := rfl
    have l3 : (lims wide tall 6)[3]? = some 6 := rfl
    have l4 : (lims wide tall 6)[4]? = some 2 := rfl
    generalize lims wide tall 6 = ls at hL hll hlp l0 l1 l2 l3 l4
    refine ⟨Nat.zero_le _, fun O nO => ?_⟩
    have sO := same_new nO (o := .lst [])
    have hO : (upd H1 O (.lst [])) O = some (.lst []) := upd_same
    have nHO : H O = none := s1.free nO
    generalize upd H1 O (.lst []) = H2 at sO hO ⊢
    refine ⟨.int cap, rfl, _, _, _, rfl, ?_⟩
    refine ⟨.int (many : Int), rfl, (many : Int), rfl, by omega, by omega, ?_⟩
    rw [Int.toNat_natCast]
    refine for_range (lo := 0) (n := many) (fun i σ H' => ∃ (y6 y10 y11 y12 y13 y14 y15 : Option V) (bs : List Bk) (co : Nat) (le : Int), σ = [some (.ref c), some (.int (many : Int)), some (.int cap), some (.int wide), some (.int tall), some (.ref L), y6, some (.ref O), some (.int (co : Int)), some (.int le), y10, y11, y12, y13, y14, y15] ∧ Same H H' ∧ H' L = some (.lst (ls.map V.int)) ∧ H' O = some (.lst (bv bs)) ∧ BsT H' bs ∧ bs.length ≤ i ∧ (pcs bs).length = co ∧ co ≤ many ∧ 0 ≤ le ∧ ∀ b ∈ bs, 1 ≤ b.ps.length)
      ⟨y6, none, none, none, none, none, none, [], 0, cap, rfl, s1.trans sO, sO _ _ hL, hO, (fun b hb => nomatch hb), Nat.le_refl _, rfl, Nat.zero_le _, hcap, (fun b hb => nomatch hb)⟩ ?_ ?_
    · rintro i σ H' hi ⟨y6, y10, y11, y12, y13, y14, y15, bs, co, le, rfl, sm, hL, hO, hb, hbl, hco, hcm, hle, hne⟩
      have e0 : (0 : Int) + (i : Int) = (i : Int) := by omega
      rw [e0]
      refine ⟨.int (co : Int), rfl, .int (many : Int), rfl, _, _, rfl, rfl, _, rfl, ite2 (fun hlt => ?_) (fun _ => ⟨_, _, _, _, _, _, _, bs, co, le, rfl, sm, hL, hO, hb, by omega, hco, hcm, hle, hne⟩)⟩
      have hlt := of_decide_eq_true hlt
      have hC' := sm _ _ hC
      have hnl : ((ns.length : Nat) : Int) ≠ 0 := by omega
      have hcl : ns.length = (ns.map V.int).length := (List.length_map _).symm
      have p0 : 0 ≤ (i : Int).fmod (ns.length : Int) := Int.fmod_nonneg_of_pos _ (by omega)
      have p1 : (i : Int).fmod (ns.length : Int) < (ns.length : Int) := Int.fmod_lt_of_pos _ (by omega)
      obtain ⟨m, hme⟩ := Int.eq_ofNat_of_zero_le p0
      obtain ⟨cv, hcv⟩ : ∃ x, ns[m]? = some x := ⟨_, List.getElem?_eq_getElem (by omega)⟩
      refine ⟨.ref c, rfl, .int (i : Int), rfl, .inl ⟨_, rfl, .ref c, rfl, .ref c, ns.length, rfl, .inl ⟨_, SqL.of hC', hcl⟩, _, _, rfl, rfl, hnl, c, _, _, _, rfl, rfl, SqL.of hC', (by rw [hme]; exact atI_nat (v := V.int cv) (by rw [List.getElem?_map, hcv]; rfl)), ?_⟩⟩
      refine ⟨.int cv, rfl, .int (i : Int), rfl, .ref c, rfl, .ref c, ns.length, rfl, .inl ⟨_, SqL.of hC', hcl⟩, _, _, rfl, rfl, ⟨hnl, by omega⟩, _, _, rfl, rfl, .inl ⟨by decide, by decide⟩, _, _, rfl, rfl, .ref L, rfl, _, L, ls, rfl, SqL.of hL, by omega, hlp, fun H3 R rs s3 nR hR hrow => ?_⟩
      obtain ⟨r0, a0, _, _⟩ := row_get hrow l0
      obtain ⟨r1, a1, _, _⟩ := row_get hrow l1
      obtain ⟨r2, a2, _, _⟩ := row_get hrow l2
      obtain ⟨r3, a3, b3, c3⟩ := row_get hrow l3
      obtain ⟨r4, a4, _, _⟩ := row_get hrow l4
      have hrl : rs.length = 47 := by rw [hrow.1, hll]
      have hnn := row_nn hrow
      refine ⟨.ref R, rfl, R, _, 3, _, rfl, rfl, SqL.of hR, a3, _, _, rfl, rfl, .int (many : Int), rfl, .int (co : Int), rfl, _, _, rfl, rfl, _, _, rfl, ?_⟩
      obtain ⟨sz, z1, z2, z3, ez⟩ : ∃ sz : Nat, 1 ≤ sz ∧ sz ≤ 6 ∧ co + sz ≤ many ∧ (if (many : Int) - (co : Int) < r3 + 1 then (many : Int) - (co : Int) else r3 + 1) = (sz : Int) := by
        by_cases h : (many : Int) - (co : Int) < r3 + 1
        · exact ⟨many - co, by omega, by omega, by omega, by rw [if_pos h]; omega⟩
        · exact ⟨(r3 + 1).toNat, by omega, by omega, by omega, by rw [if_neg h]; omega⟩
      rw [ez]
      refine ⟨Nat.zero_le _, fun Pl nPl => ?_⟩
      have hO3 := s3 _ _ hO
      have hL3 := s3 _ _ hL
      have hb3 := hb.kp (Kp.of s3)
      have sm3 := sm.trans s3
      refine ⟨.int (sz : Int), rfl, (sz : Int), rfl, by omega, by omega, ?_⟩
      rw [Int.toNat_natCast]
      refine for_range (lo := 0) (n := sz) (fun k σ H' => ∃ (y6 y15 : Option V) (ps : List Pc) (le : Int), σ = [some (.ref c), some (.int (many : Int)), some (.int cap), some (.int wide), some (.int tall), some (.ref L), y6, some (.ref O), some (.int (co : Int)), some (.int le), some (.int (i : Int)), some (.int cv), some (.ref R), some (.int (sz : Int)), some (.ref Pl), y15] ∧ Same H3 H' ∧ H' Pl = some (.lst (pv' ps)) ∧ (∀ p ∈ ps, PcT H' p) ∧ ps.length = k ∧ 0 ≤ le)
        ⟨_, _, [], le, rfl, same_new nPl, upd_same, (fun p hp => nomatch hp), rfl, hle⟩ ?_ ?_
      · rintro k σ H4 hk ⟨y6, y15, ps, le, rfl, s4, hPl, hps, hpl, hle⟩
        have e0 : (0 : Int) + (k : Int) = (k : Int) := by omega
        rw [e0]
        have hR4 := s4 _ _ hR
        refine ⟨.ref R, rfl, .int (k : Int), rfl, 7, (k : Int), rfl, rfl, .inl ⟨by decide, by decide⟩, _, 5, rfl, rfl, ((7 * k + 5 : Nat) : Int), congrArg V.int (by omega), .int (k : Int), rfl, 7, (k : Int), rfl, rfl, .inl ⟨by decide, by decide⟩, _, 12, rfl, rfl, ((7 * k + 12 : Nat) : Int), congrArg V.int (by omega), R, _, rfl, SqL.of hR4, fun z nz => ?_⟩
        have hcut : cutV (rs.map V.int) (some ((7 * k + 5 : Nat) : Int)) (some ((7 * k + 12 : Nat) : Int)) = ((rs.drop (7 * k + 5)).take 7).map V.int := by
          rw [cutV_mid _ (by rw [List.length_map]; omega) (by rw [List.length_map]; omega), List.map_take, List.map_drop]; congr 1; omega
        rw [hcut]
        have sz' := same_new nz (o := .lst (((rs.drop (7 * k + 5)).take 7).map V.int))
        refine ⟨.int (k : Int), rfl, .int (sz : Int), rfl, _, _, rfl, rfl, rfl, .int le, rfl, .int tall, rfl, z, _, _, le, tall, rfl, upd_same, (by rw [List.length_take, List.length_drop]; omega), (fun x hx => hnn x (List.mem_of_mem_drop (List.mem_of_mem_take hx))), hle, fun H5 p s5 hp hcl => ?_⟩
        have s45 := sz'.trans s5
        obtain ⟨h1, h2, h3, h4, h5, h6, h7⟩ := id hp
        refine ⟨.int le, rfl, .ref p.t, rfl, p.t, _, 3, .ref p.ca, rfl, rfl, SqT.of h1, rfl, .ref p.ca, p.calls.length, rfl, .inr ⟨_, SqT.of h6, (List.length_map _).symm⟩, _, _, rfl, rfl, ?_⟩
        have hPl5 := s45 _ _ hPl
        refine ⟨.ref Pl, rfl, .inl ⟨rfl, _, SqL.of hPl5⟩, .ref p.t, rfl, Pl, _, .ref p.t, rfl, rfl, hPl5, (by rw [pv_len]; exact small1000 (by omega)), ?_⟩
        have kp5 : Kp H5 (upd H5 Pl (.lst (pv' ps ++ [.ref p.t]))) := Kp.but hPl5 (fun z => z) upd_but
        refine ⟨_, _, ps ++ [p], _, rfl, same_at (s4.trans s45) nPl, by rw [upd_same, pv_snoc], fun x hx => ?_, by rw [List.length_append, hpl]; rfl, by omega⟩
        rcases List.mem_append.mp hx with hx | hx
        · exact ((hps x hx).kp (Kp.of s45)).kp kp5
        · rw [List.mem_singleton.mp hx]; exact hp.kp kp5
      · rintro σ H4 ⟨y6, y15, ps, le, rfl, s4, hPl, hps, hpl, hle⟩
        have hR4 := s4 _ _ hR
        have hO4 := s4 _ _ hO3
        refine ⟨.ref O, rfl, .inl ⟨rfl, _, SqL.of hO4⟩, .ref R, rfl, R, _, 0, _, rfl, rfl, SqL.of hR4, a0, _, _, rfl, rfl, .ref R, rfl, R, _, 1, _, rfl, rfl, SqL.of hR4, a1, .ref R, rfl, R, _, 2, _, rfl, rfl, SqL.of hR4, a2, .ref R, rfl, R, _, 4, _, rfl, rfl, SqL.of hR4, a4, rfl, .ref Pl, rfl, Pl, pv' ps, rfl, .inl ⟨SqL.of hPl, fun pt npt => ?_⟩⟩
        have s5 := same_new npt (o := .tup (pv' ps))
        have hpt : (upd H4 pt (.tup (pv' ps))) pt = some (.tup (pv' ps)) := upd_same
        generalize upd H4 pt (.tup (pv' ps)) = H5 at s5 hpt ⊢
        refine ⟨by show 5 ≤ sizeLine; decide, fun t nt => ?_⟩
        have s6 := same_new nt (o := .tup [.int (r0 + 1), .int r1, .int r2, .bl (decide (V.int r4 = V.int 1)), .ref pt])
        have ht : (upd H5 t (.tup [.int (r0 + 1), .int r1, .int r2, .bl (decide (V.int r4 = V.int 1)), .ref pt])) t = some (.tup [.int (r0 + 1), .int r1, .int r2, .bl (decide (V.int r4 = V.int 1)), .ref pt]) := upd_same
        have s36 := s4.trans (s5.trans s6)
        have hO6 := s36 _ _ hO3
        have hpt6 := s6 _ _ hpt
        have hps6 : ∀ p ∈ ps, PcT (upd H5 t (.tup [.int (r0 + 1), .int r1, .int r2, .bl (decide (V.int r4 = V.int 1)), .ref pt])) p := fun p hp => (hps p hp).kp (Kp.of (s5.trans s6))
        refine ⟨O, _, .ref t, rfl, rfl, hO6, (by rw [bv_len]; exact small1000 (by omega)), ?_⟩
        have kp6 : Kp (upd H5 t (.tup [.int (r0 + 1), .int r1, .int r2, .bl (decide (V.int r4 = V.int 1)), .ref pt])) (upd (upd H5 t (.tup [.int (r0 + 1), .int r1, .int r2, .bl (decide (V.int r4 = V.int 1)), .ref pt])) O (.lst (bv bs ++ [.ref t]))) := Kp.but hO6 (fun z => z) upd_but
        have nLO : L ≠ O := fun e => by
          have h1 := s36 _ _ hL3
          rw [e, hO6] at h1
          have h2 := congrArg (fun o : Option HO => match o with | some (.lst (V.int _ :: _)) => true | _ => false) h1
          have h3 : ls.map V.int = V.int tall :: (ls.map V.int).tail := by
            cases ls with
            | nil => cases l0
            | cons x ls => cases l0; rfl
          rw [h3] at h2
          cases bs with
          | nil => exact absurd (show false = true from h2) (by decide)
          | cons b bs => exact absurd h2 (by show (false = true) → False; decide)
        refine ⟨.int (co : Int), rfl, .int (sz : Int), rfl, _, _, rfl, rfl, ?_⟩
        refine ⟨y6, some (.int (i : Int)), some (.int cv), some (.ref R), some (.int (sz : Int)), some (.ref Pl), y15, bs ++ [⟨t, r0 + 1, r1, r2, decide (V.int r4 = V.int 1), pt, ps⟩], co + sz, le, ?_, same_at (sm3.trans s36) nHO, upd_but _ _ nLO (s36 _ _ hL3), by rw [upd_same]; exact congrArg (fun x => some (HO.lst x)) (bv_snoc (b := ⟨t, r0 + 1, r1, r2, decide (V.int r4 = V.int 1), pt, ps⟩)), ?_, by rw [List.length_append]; show bs.length + 1 ≤ i + 1; omega, by rw [pcs_snoc, List.length_append, hco]; show co + ps.length = _; omega, z3, hle, ?_⟩
        · have ec : ((co + sz : Nat) : Int) = (co : Int) + (sz : Int) := by omega
          rw [ec]; rfl
        · refine BsT.app ((hb3.kp (Kp.of s36)).kp kp6) fun x hx => ?_
          rw [List.mem_singleton.mp hx]
          exact BkT.kp (H := upd H5 t (.tup [.int (r0 + 1), .int r1, .int r2, .bl (decide (V.int r4 = V.int 1)), .ref pt])) ⟨ht, hpt6, by show ps.length ≤ 50; omega, hps6⟩ kp6
        · intro x hx
          rcases List.mem_append.mp hx with hx | hx
          · exact hne x hx
          · rw [List.mem_singleton.mp hx]; show 1 ≤ ps.length; omega
    · rintro σ H' ⟨y6, y10, y11, y12, y13, y14, y15, bs, co, le, rfl, sm, hL, hO, hb, hbl, hco, hcm, hle, hne⟩
      exact ⟨.ref O, rfl, q H' O bs sm nHO hO hb (by omega) (by omega) hne⟩
end
end K34

set_option maxRecDepth 100000
set_option maxHeartbeats 8000000
namespace K34
section
open PySem PySem.Spec PyProof.Rows L2 PySem.W PySem.Calls
open RH (kit_err)
/-- isinstance(e, c), e the caught error at a, of class D, its own dict at dd -/
def rIsD (K : PySem.W.Frag) (D a : Addr) (cls : Value) (d : Option Addr) : List V → Hp → VK → Prop := fun xs H Q => ∃ (c : V) (cv : Value) (b : Bool) (dd : Addr) (fs : List (Str × V)),
  cls = .ref D ∧ xs = [.ref a, c] ∧ (∀ u, RelV c u → u = cv) ∧ kitOne K (.ref D) cv = some b ∧ d = some dd ∧ H dd = some (.xd fs) ∧ Q (.bl b) H
theorem call_isD {X : Cx} {a D : Addr} {oe : Obj} {cls : Value} {d : Option Addr} {pn : List (Addr × Obj)} (C : ExcC X.K D) (hz : Zc cls d oe) (hf : ∃ vs, oe.data = .fields vs) : CallR (X.suite a ((a, oe) :: pn)) (.builtin "isinstance") (rIsD X.K D a cls d) := by
  intro pins s σ H xs us Q I r h
  obtain ⟨c, cv, b, dd, fs, ecl, rfl, hcv, e, ed, ea, q⟩ := h
  subst ecl
  subst ed
  obtain ⟨u1, u2, rfl, r1, r2⟩ := vals2 r
  obtain rfl : u1 = Value.ref a := r1
  have ec := hcv _ r2; subst ec
  obtain ⟨hget, _⟩ := I.pin (a, oe) (List.mem_append_left _ List.mem_cons_self)
  obtain ⟨vs, hv⟩ := hf
  have hx : ObjOk X.prog X.w H s.heap dd (.xd fs) := I.hok dd _ ea
  obtain ⟨mA, hns, hr⟩ := hx
  obtain ⟨od, ho, hl⟩ := lookIn_ns hns
  have J : InstAt s.heap a oe D (some od) := ⟨hget, hz.1, by unfold PySem.W.notCls; rw [hv] <;> rfl, by rw [hz.2]; exact ho⟩
  exact kia_one (kit_err C) I.kIn J e (fun z => nomatch z) fun tk => ⟨.bl b, H, I.kept (t' := tk) fun _ _ z => z, rfl, q⟩
end
open PySem PySem.Spec PyProof.Rows L2
section
variable {P : Program} {w : World} {K : PySem.W.Frag} {mg : Str → Option Value} {base : Heap} {t1 t2 : Tok}
/-! ### _law_cells_from -/
def spCf (K : PySem.W.Frag) : Sp := fun vs H Q _ => ∃ (a : Addr) (ns : List Int) (at_ : Int), vs = [.ref a, .int at_] ∧ SqL K H a (ns.map V.int) ∧ (∀ H', Same H H' → SqL K H' a (ns.map V.int)) ∧ ns.length ≤ 63 ∧ 0 ≤ at_ ∧
  ∀ H' p (cs : List Int), Same H H' → H p = none → H' p = some (.lst (cs.map V.int)) → 1 ≤ cs.length → cs.length ≤ 8 → Q (.ref p) H'
abbrev nCf : List Str := ["_law_script", "_law_at", "_law_k"]
theorem scFrom : FnScope nCf ["_law_script", "_law_at"] (defScope sFrom) := ⟨rfl, rfl, rfl, by decide +kernel, rfl, by decide +kernel, by decide +kernel⟩
theorem ok_cells_from {f f_cell : Addr} {fd fd_cell : FuncData} (B : Blt mg) (F : Fun K "_law_cells_from" "_law_cells_from" sFrom f fd)
    (F_cell : Fun K "_law_cell" "_law_cell" sCell f_cell fd_cell) (b_cell : Binds K fd_cell ["_law_script", "_law_k"] []) (g_cell : mg "_law_cell" = some (.ref f_cell)) : FnOk P w K mg base CX0 2 f fd ["_law_script", "_law_at"] (spCf K) := by
  have G_cell : FnOk P w K mg base CX0 1 f_cell fd_cell ["_law_script", "_law_k"] (spCell K) := ok_cell B F_cell
  refine F.ok scFrom (fun vs H Q E h => ?_) (fun cdv A0 outer s H vs Q E hr h => ?_)
  · obtain ⟨a, ns, at_, rfl, _⟩ := h; rfl
  · obtain ⟨a, ns, at_, rfl, ha, hst, hl, h0, q⟩ := h
    refine ⟨_, (pss_one (ps_ret (pe_lc (own := [("_law_k", 2)]) (g := gName 2) (tt := tYes) rfl scFrom.nd (pi_range1 (by rfl) B.range (pa_cons (pe_callB (call_max2 rfl) (by rfl) B.max (by decide +kernel) (pa_cons pe_int (pa_cons (pe_callB (call_min2 rfl) (by rfl) B.min (by decide +kernel) (pa_cons pe_int (pa_cons (pe_op op_sub (pe_callB call_len (by rfl) B.len PySem.boot_len (pa_cons (pv 0) pa_nil)) (pv 1)) pa_nil))) pa_nil))) pa_nil)) (blkOk_by (N := nCf) (sc := defScope sFrom) (by decide +kernel)) (fun _ _ _ _ _ => (pg_name (i := 2) scFrom.nd rfl (.inl rfl))) (fun _ _ _ _ _ => pts_nil) (fun _ _ _ _ _ => (pe_call G_cell hr (by rfl) g_cell F_cell.kp b_cell .nil pass0 (pa_cons (pv 0) (pa_cons (pe_op op_add (pv 1) (pv 2)) pa_nil))))))), ?_⟩
    refine ⟨.ref a, rfl, .ref a, ns.length, rfl, .inl ⟨_, ha, (List.length_map _).symm⟩, .int at_, rfl, _, _, rfl, rfl, _, _, rfl, _, _, rfl, ?_⟩
    obtain ⟨m, hm1, hm8, em⟩ : ∃ m : Nat, 1 ≤ m ∧ m ≤ 8 ∧ (if (if (ns.length : Int) - at_ < 8 then (ns.length : Int) - at_ else 8) > 1 then (if (ns.length : Int) - at_ < 8 then (ns.length : Int) - at_ else 8) else 1) = (m : Int) := by
      by_cases h1 : (ns.length : Int) - at_ < 8
      · rw [if_pos h1]
        by_cases h2 : (ns.length : Int) - at_ > 1
        · exact ⟨((ns.length : Int) - at_).toNat, by omega, by omega, by rw [if_pos h2]; omega⟩
        · exact ⟨1, by omega, by omega, by rw [if_neg h2]; rfl⟩
      · exact ⟨8, by omega, by omega, by rw [if_neg h1]; rfl⟩
    rw [em]
    refine ⟨_, rfl, by omega, by omega, fun D hD => ?_⟩
    rw [Int.toNat_natCast]
    refine lc_range (lo := 0) (n := m) (fun i H' => ∃ cs : List Int, H' D = some (.lst (cs.map V.int)) ∧ cs.length = i ∧ Same H H') ⟨[], upd_same, rfl, same_new hD⟩ ?_ ?_
    · rintro i H' hi ⟨cs, hc, hcl, sm⟩
      refine ⟨rfl, .ref a, rfl, .int at_, rfl, .int (0 + (i : Int)), rfl, _, _, rfl, rfl, a, ns, _, rfl, hst _ sm, hl, by omega, fun c => ⟨_, hc, ?_, cs ++ [c], ?_, ?_, same_at sm hD⟩⟩
      · rw [List.length_map]; exact small1000 (by omega)
      · rw [upd_same, map_snoc]
      · rw [List.length_append, hcl]; rfl
    · rintro H' ⟨cs, hc, hcl, sm⟩
      exact q H' D cs sm hD hc (by omega) (by omega)
/-! ### _law_due -/
def spDue : Sp := fun vs H Q _ => ∃ (a : Addr) (bs : List Bk), vs = [.ref a] ∧ H a = some (.lst (bv bs)) ∧ BsT H bs ∧ ∀ H', Same H H' → Q (.int ((dueN bs : Nat) : Int)) H'
abbrev nDu : List Str := ["_law_blocks", "_law_many", "_law_called", "_law_block", "_law_piece"]
theorem scDue : FnScope nDu ["_law_blocks"] (defScope sDue) := ⟨rfl, rfl, rfl, by decide +kernel, rfl, by decide +kernel, by decide +kernel⟩
theorem ok_due {f : Addr} {fd : FuncData} (B : Blt mg) (F : Fun K "_law_due" "_law_due" sDue f fd) : FnOk P w K mg base CX0 1 f fd ["_law_blocks"] spDue := by
  refine F.ok scDue (fun vs H Q E h => ?_) (fun cdv A0 outer s H vs Q E hr h => ?_)
  · obtain ⟨a, bs, rfl, _⟩ := h; rfl
  · obtain ⟨a, bs, rfl, ha, hb, q⟩ := h
    refine ⟨_, (pss_cons (ps_asg (pe_tup (pa_cons pe_int (pa_cons pe_int pa_nil))) (pg_tup rfl (pgs_cons (pg_name (i := 1) scDue.nd rfl (.inl rfl)) (pgs_cons (pg_name (i := 2) scDue.nd rfl (.inl rfl)) pgs_nil))))
      (pss_cons (ps_for (PassesOwn.never) rfl (pi_list (pv 0)) (pg_name (i := 3) scDue.nd rfl (.inl rfl))
      (pss_one (ps_for (PassesOwn.never) rfl (pi_tup (pe_ix ix_tup (pv 3) pe_int (fun _ _ => rfl))) (pg_name (i := 4) scDue.nd rfl (.inl rfl))
       (pss_cons (ps_set (i := 1) scDue.nd rfl (.inl rfl) (pe_op op_add (pv 1) pe_int))
        (pss_one (ps_set (i := 2) scDue.nd rfl (.inl rfl) (pe_op op_add (pv 2) (pe_callB call_len (by rfl) B.len PySem.boot_len (pa_cons (pe_ix ix_tup (pv 4) pe_int (fun _ _ => rfl)) pa_nil)))))))))
      (pss_cons (ps_if (pt_cmpR op_gt (pv 1) pe_int (nomark _))
      (pss_one (ps_ret (pv 1)))
      pss_nil)
      (pss_cons (ps_if (pt_cmpR op_gt (pv 2) pe_int (nomark _))
      (pss_one (ps_ret (pv 2)))
      pss_nil)
      (pss_one (ps_ret pe_int)))))), ?_⟩
    refine ⟨by show 2 ≤ sizeLine; decide, fun T0 nT => ⟨T0, _, rfl, SqT.of upd_same, rfl, _, _, rfl, _, _, rfl, rfl, ?_⟩⟩
    have s1 := same_new nT (o := .tup [.int 0, .int 0])
    have q := q _ s1
    have ha := s1 _ _ ha
    have hb := hb.kp (Kp.of s1)
    generalize upd H T0 (.tup [.int 0, .int 0]) = H1 at q ha hb ⊢
    refine ⟨.ref a, rfl, a, rfl, ⟨_, SqL.of ha⟩, for_list (K := K) (a := a) (xs := bv bs) (fun i σ H' => ∃ (y3 y4 : Option V), σ = [some (.ref a), some (.int (((pcs (bs.take i)).length : Nat) : Int)), some (.int (((figs (pcs (bs.take i))).length : Nat) : Int)), y3, y4] ∧ H1 = H') ⟨none, none, rfl, rfl⟩ (fun i σ H' _ ⟨_, _, _, e⟩ => by rw [← e]; exact SqL.of ha) ?_ ?_⟩
    · rintro i x σ H' hi ⟨y3, y4, rfl, rfl⟩
      obtain ⟨b, en, rfl⟩ := of_bv hi
      obtain ⟨h1, h2, h3, h4⟩ := hb b (List.mem_of_getElem? en)
      refine ⟨.ref b.t, rfl, b.t, _, 4, .ref b.pt, rfl, rfl, SqT.of h1, rfl, b.pt, rfl, ⟨_, SqT.of h2⟩, for_tup (K := K) (a := b.pt) (xs := pv' b.ps) (fun j σ H' => ∃ (y4 : Option V), σ = [some (.ref a), some (.int (((pcs (bs.take i) ++ b.ps.take j).length : Nat) : Int)), some (.int (((figs (pcs (bs.take i) ++ b.ps.take j)).length : Nat) : Int)), some (.ref b.t), y4] ∧ H1 = H') ⟨_, by rw [List.take_zero, List.append_nil]; rfl, rfl⟩ (fun j σ H' _ ⟨_, _, e⟩ => by rw [← e]; exact SqT.of h2) ?_ ?_⟩
      · rintro j x σ H' hj ⟨y4, rfl, rfl⟩
        obtain ⟨p, ep, rfl⟩ := of_pv hj
        obtain ⟨k1, _, _, _, _, k2, _⟩ := h4 p (List.mem_of_getElem? ep)
        refine ⟨.int _, rfl, _, _, rfl, rfl, .int _, rfl, .ref p.t, rfl, p.t, _, 3, .ref p.ca, rfl, rfl, SqT.of k1, rfl, .ref p.ca, p.calls.length, rfl, .inr ⟨_, SqT.of k2, (List.length_map _).symm⟩, _, _, rfl, rfl, some (.ref p.t), ?_, rfl⟩
        have e1 : b.ps.take (j + 1) = b.ps.take j ++ [p] := by rw [List.take_add_one, ep]; rfl
        have e2 : (((pcs (bs.take i) ++ b.ps.take (j + 1)).length : Nat) : Int) = (((pcs (bs.take i) ++ b.ps.take j).length : Nat) : Int) + 1 := by
          rw [e1, ← List.append_assoc, List.length_append (as := _ ++ _)]; show (((_ : Nat) + 1 : Nat) : Int) = _; omega
        have e3 : (((figs (pcs (bs.take i) ++ b.ps.take (j + 1))).length : Nat) : Int) = (((figs (pcs (bs.take i) ++ b.ps.take j)).length : Nat) : Int) + ((p.calls.length : Nat) : Int) := by
          rw [e1, ← List.append_assoc]; unfold figs; rw [List.flatMap_append, List.length_append]; simp
        rw [e2, e3]; rfl
      · rintro σ H' ⟨y4, rfl, rfl⟩
        rw [pv_len, List.take_length]
        refine ⟨some (.ref b.t), y4, ?_, rfl⟩
        have e1 : pcs (bs.take (i + 1)) = pcs (bs.take i) ++ b.ps := by unfold pcs; rw [flat_take _ en]
        rw [e1]
    · rintro σ H' ⟨y3, y4, rfl, rfl⟩
      rw [bv_len, List.take_length]
      unfold dueN at q
      refine ⟨.int _, rfl, _, _, rfl, rfl, _, rfl, ite2 (fun h => ?_) (fun h => ?_)⟩
      · have h' := of_decide_eq_true h
        rw [if_pos (by omega)] at q
        exact ⟨.int _, rfl, q⟩
      have n1 : ¬ 40 < (pcs bs).length := fun z => h (decide_eq_true (by show (((pcs bs).length : Nat) : Int) > 40; omega))
      rw [if_neg n1] at q
      refine ⟨.int _, rfl, _, _, rfl, rfl, _, rfl, ite2 (fun h => ?_) (fun h => ?_)⟩
      · have h' := of_decide_eq_true h
        rw [if_pos (by omega)] at q
        exact ⟨.int _, rfl, q⟩
      have n2 : ¬ 4 < (figs (pcs bs)).length := fun z => h (decide_eq_true (by show (((figs (pcs bs)).length : Nat) : Int) > 4; omega))
      rw [if_neg n2] at q
      exact q
/-! ### _law_next -/
def spNext : Sp := fun vs H Q _ => ∃ i : Int, vs = [.int i] ∧ ∀ j : Int, j ≠ i → Q (.int j) H
theorem scNext : FnScope ["_law_value"] ["_law_value"] (defScope sNext) := ⟨rfl, rfl, rfl, by decide +kernel, rfl, by decide +kernel, by decide +kernel⟩
theorem ok_next {f : Addr} {fd : FuncData} (F : Fun K "_law_next" "_law_next" sNext f fd) : FnOk P w K mg base CX0 1 f fd ["_law_value"] spNext := by
  refine F.ok scNext (fun vs H Q E h => ?_) (fun cdv A0 outer s H vs Q E hr h => ?_)
  · obtain ⟨i, rfl, _⟩ := h; rfl
  · obtain ⟨i, rfl, q⟩ := h
    refine ⟨_, (pss_cons (ps_if (pt_cmpR op_lt (pv 0) pe_int (nomark _))
      (pss_one (ps_ret (pe_op op_add (pv 0) pe_int)))
      pss_nil)
      (pss_one (ps_ret (pe_op op_sub (pv 0) pe_int)))), ?_⟩
    refine ⟨.int i, rfl, _, _, rfl, rfl, _, rfl, ite2 (fun h => ?_) (fun h => ?_)⟩
    · exact ⟨.int i, rfl, _, _, rfl, rfl, q (i + 1) (by omega)⟩
    · exact ⟨.int i, rfl, _, _, rfl, rfl, q (i - 1) (by omega)⟩
/-! ### the errors of the law -/
structure Ers (K : PySem.W.Frag) (mg : Str → Option Value) (CT CN CL : Addr) : Prop where
  gL : mg "LaidError" = some (.ref CL)
  gT : mg "TooLarge" = some (.ref CT)
  gN : mg "NoSuchNumber" = some (.ref CN)
  xT : ExcC K CT
  nT : PySem.W.findIn K (.ref CT) "many" = some none
  tt : PySem.W.exmOne K (.ref CT) (.ref CT) = some true
  tL : PySem.W.kitOne K (.ref CT) (.ref CL) = some true
  tN : PySem.W.kitOne K (.ref CT) (.ref CN) = some false
  xN : ExcC K CN
  nN : PySem.W.findIn K (.ref CN) "number" = some none
  nn : PySem.W.exmOne K (.ref CN) (.ref CN) = some true
  nL : PySem.W.kitOne K (.ref CN) (.ref CL) = some true
  nTT : PySem.W.kitOne K (.ref CN) (.ref CT) = some false
theorem ok_numberH {f : Addr} {fd : FuncData} (B : Blt mg) (F : Fun K "_law_number" "_law_number" sNumber f fd) : L2H.FnH P w K mg base CX0 1 f fd ["_law_value"] spNumber := by
  refine RN.okH F scNumber (fun vs H Q E h => ?_) (fun cdv A outer s H vs Q E p0 h => ?_)
  · obtain ⟨i, rfl, _⟩ := h; rfl
  · obtain ⟨i, rfl, q⟩ := h
    refine ⟨_, PSs.nox (pss_one (ps_ret (pe_and (pe_callB call_isi (by rfl) B.isi (by decide +kernel) (pa_cons (pv 0) (pa_cons (pe_bltn (v := .ty "int") (by rfl) B.int (by decide +kernel) rfl) pa_nil))) (pe_one (pe_not (pe_callB call_isi (by rfl) B.isi (by decide +kernel) (pa_cons (pv 0) (pa_cons (pe_bltn (v := .ty "bool") (by rfl) B.bool (by decide +kernel) rfl) pa_nil)))))))), ?_⟩
    exact ⟨.int i, rfl, .int i, .ty "int", .type "int", .type "int", true, rfl, .ty "int", .base (.int i), kit_ty (by decide +kernel), _, rfl, iteT ⟨.int i, rfl, .int i, .ty "bool", .type "int", .type "bool", false, rfl, .ty "bool", .base (.int i), kit_ty (by decide +kernel), _, rfl, q⟩⟩
/-! ### _law_refused -/
def spRef : Sp := fun vs H Q _ => ∃ (a : Addr) (bs : List Bk), vs = [.ref a, .int ((dueN bs : Nat) : Int)] ∧ H a = some (.lst (bv bs)) ∧ BsT H bs ∧ Small bs ∧ 0 < dueN bs ∧ ∀ H', Same H H' → Q (.bl true) H'
abbrev nRf : List Str := ["_law_blocks", "_law_due_here", "e", "_law_own"]
theorem scRf : FnScope nRf ["_law_blocks", "_law_due_here"] (defScope sRefused) := ⟨rfl, rfl, rfl, by decide +kernel, rfl, by decide +kernel, by decide +kernel⟩
theorem ok_refused {C CT CN CL f_init f f_number : Addr} {fd_init fd fd_number : FuncData} (B : Blt mg) (T : Gly K mg C) (M : Mk K C f_init) (R : Ers K mg CT CN CL) (F : Fun K "_law_refused" "_law_refused" sRefused f fd)
    (G_init : FnOk P w K mg base (L2N.CX P w) 4 f_init fd_init pIn (spInit K C CT)) (b_init : Binds K fd_init pIn [])
    (F_number : Fun K "_law_number" "_law_number" sNumber f_number fd_number) (b_number : Binds K fd_number ["_law_value"] []) (g_number : mg "_law_number" = some (.ref f_number)) : FnOk P w K mg base CX0 6 f fd ["_law_blocks", "_law_due_here"] spRef := by
  have G_number : L2H.FnH P w K mg base CX0 1 f_number fd_number ["_law_value"] spNumber := ok_numberH B F_number
  have xT : XfC K CT := ⟨R.xT.hg, R.xT.hk, R.xT.hs, R.xT.hd⟩
  refine F.ok scRf (fun vs H Q E h => ?_) (fun cdv A0 outer s H vs Q E hr h => ?_)
  · obtain ⟨a, bs, rfl, _⟩ := h; rfl
  · obtain ⟨a, bs, rfl, ha, hb, hs, h0, q⟩ := h
    have hr1 : Room 1 _ := hr.mono (by decide)
    refine ⟨_, (pss_cons (L2N.ps_try_as (i := 2) (Wout := fun _ _ _ _ => False) (ts := fun a cls d => _) rfl rfl scRf.nd rfl rfl ⟨rfl, by decide, .inl R.gT⟩ RN.takes0N
        (fun W pn xe tk _ => pss_one (ps_expr (R6.pe_makeS M G_init hr (by rfl) T.mgC b_init .nil (fun σ => L2N.passAt tk σ) (pa_cons (pe_callTy (show CallR _ (.type "list") (fun xs H Q => ∃ p ys, xs = [.ref p] ∧ (SqL K H p ys ∨ SqT K H p ys) ∧ ∀ l, H l = none → Q (.ref l) (upd H l (.lst ys))) from call_list_of) (by rfl) B.list (by decide +kernel) (pa_cons (pv 0) pa_nil)) pa_nil))))
        (fun a oe cls d pn hz hf => pss_cons (ps_set (i := 3) scRf.nd rfl (.inl rfl) (pe_and (pe_callB (call_isD R.xT hz.zc hf) (by rfl) B.isi (by decide +kernel) (pa_cons (pv 2) (pa_cons (pe_glob (v := .ref CL) (by rfl) R.gL rfl) pa_nil))) (pe_one (pe_not (pe_callB (call_isD R.xT hz.zc hf) (by rfl) B.isi (by decide +kernel) (pa_cons (pv 2) (pa_cons (pe_glob (v := .ref CN) (by rfl) R.gN rfl) pa_nil)))))))
          (pss_one (ps_ret (pe_and (pv 3) (pe_and (L2H.pe_callH (E := fun _ => E0) G_number ⟨hr1.dp, hr1.un⟩ ⟨(a, oe), ⟨rfl, let ⟨vs, hv⟩ := hf; ⟨vs, hv, hz.2.2 vs hv⟩⟩, List.mem_cons_self⟩ (by rfl) g_number F_number.kp b_number (fun _ _ _ _ _ _ _ c => c.elim) (pa_cons (pe_xf xT R.nT hz.zc hf (pv 2)) pa_nil)) (pe_one (pe_cmpR op_eq (pe_xf xT R.nT hz.zc hf (pv 2)) (pv 1) (nomark _)))))))))
      (pss_one (ps_ret pe_bl))), ?_⟩
    refine ⟨.ref a, rfl, a, _, rfl, .inl (SqL.of ha), fun l nl => ?_⟩
    have s1 := same_new nl (o := .lst (bv bs))
    have hl : (upd H l (.lst (bv bs))) l = some (.lst (bv bs)) := upd_same
    generalize upd H l (.lst (bv bs)) = H1 at s1 hl ⊢
    refine fun p dx np ndx hne => ?_
    have sM : Same H1 (upd (upd H1 dx (.own p)) p (.ins C dx [])) := made_up np ndx
    refine ⟨p, dx, l, bs, rfl, upd_same, .inl (sM _ _ hl), (hb.kp (Kp.of s1)).kp (Kp.of sM), hs, fun _ H3 d hk hd => ?_, fun hz => absurd hz (by omega)⟩
    have s3 : Same H1 H3 := made_same np ndx hk
    have sd := s1.trans (s3.trans (same_new hd (o := .xd [("many", .int ((dueN bs : Nat) : Int))])))
    refine ⟨true, R.tt, fun _ e he => ?_, fun z => nomatch z⟩
    refine ⟨.ref e, rfl, .ref CL, .ref CL, true, d, _, rfl, rfl, fun u hu => hu, R.tL, rfl, upd_same, _, rfl, iteT ⟨.ref e, rfl, .ref CN, .ref CN, false, d, _, rfl, rfl, fun u hu => hu, R.tN, rfl, upd_same, _, rfl, ?_⟩⟩
    refine ⟨.bl true, rfl, true, rfl, iteT ⟨.ref e, rfl, rfl, rfl, d, _, .int ((dueN bs : Nat) : Int), rfl, upd_same, rfl, _, rfl, _, rfl, iteT ⟨.ref e, rfl, rfl, rfl, d, _, .int ((dueN bs : Nat) : Int), rfl, upd_same, rfl, .int _, rfl, rfl, ?_⟩⟩⟩
    rw [decide_eq_true rfl]; exact q _ sd
end
end K34

set_option maxRecDepth 100000
set_option maxHeartbeats 8000000
namespace K34
open PySem PySem.Spec PyProof.Rows L2
/-- what the operators of the class have -/
structure Ops (P : Program) (w : World) (K : PySem.W.Frag) (mg : Str → Option Value) (base : Heap) (C CT CN fa fj fe fb : Addr) (da dj de db : FuncData) : Prop where
  ad : RB.OpC K C "__add__" fa
  adG : FnOk P w K mg base (L2N.CX P w) 6 fa da pOt (spAdd K C CT)
  adB : Binds K da pOt []
  ia : RB.OpC K C "__iadd__" fj
  iaG : FnOk P w K mg base (L2N.CX P w) 6 fj dj pOt (spIadd K C CT)
  iaB : Binds K dj pOt []
  eq : PySem.W.findIn K (.ref C) "__eq__" = some (some (.ref fe)) ∧ PySem.W.isFn K (.ref fe) = true
  eqG : FnOk P w K mg base CX0 1 fe de pOt (spEq C)
  eqN : R7.NiOk P w K mg base 1 fe niR
  eqB : Binds K de pOt []
  nol : PySem.W.subIn K (.ref C) (.type "list") = some false
  bl : Meth K C "block_at" fb
  blT : PySem.W.typeIn K (.ref fb) = some (.type "function")
  blG : FnOk P w K mg base (L2N.CX P w) 3 fb db pBl (spBlock C CN)
  blB : Binds K db pBl []
section
variable {P : Program} {w : World} {K : PySem.W.Frag} {mg : Str → Option Value} {base : Heap} {t1 t2 : Tok} {C CT CN CL fa fj fe fb : Addr} {da dj de db : FuncData}
/-! ### _law_sum_refused -/
def spSr (C : Addr) : Sp := fun vs H Q _ => ∃ (p q : Addr) (l m : L3) (bs cs : List Bk), vs = [.ref p, .ref q, .int ((dueN (bs ++ cs) : Nat) : Int)] ∧ GalA C H p l bs ∧ GalA C H q m cs ∧ Small (bs ++ cs) ∧ 0 < dueN (bs ++ cs) ∧ ∀ H', Same H H' → Q (.bl true) H'
abbrev p3 : List Str := ["_law_first", "_law_second", "_law_due_here"]
abbrev nSr : List Str := ["_law_first", "_law_second", "_law_due_here", "e"]
theorem scSr : FnScope nSr p3 (defScope sSumRef) := ⟨rfl, rfl, rfl, by decide +kernel, rfl, by decide +kernel, by decide +kernel⟩
theorem ok_sum_refused {f f_number : Addr} {fd fd_number : FuncData} (B : Blt mg) (O : Ops P w K mg base C CT CN fa fj fe fb da dj de db) (R : Ers K mg CT CN CL) (F : Fun K "_law_sum_refused" "_law_sum_refused" sSumRef f fd)
    (F_number : Fun K "_law_number" "_law_number" sNumber f_number fd_number) (b_number : Binds K fd_number ["_law_value"] []) (g_number : mg "_law_number" = some (.ref f_number)) : FnOk P w K mg base CX0 7 f fd p3 (spSr C) := by
  have G_number : L2H.FnH P w K mg base CX0 1 f_number fd_number ["_law_value"] spNumber := ok_numberH B F_number
  have xT : XfC K CT := ⟨R.xT.hg, R.xT.hk, R.xT.hs, R.xT.hd⟩
  refine F.ok scSr (fun vs H Q E h => ?_) (fun cdv A0 outer s H vs Q E hr h => ?_)
  · obtain ⟨p, q, l, m, bs, cs, rfl, _⟩ := h; rfl
  · obtain ⟨p, r, l, m, bs, cs, rfl, g1, g2, hs, h0, q⟩ := h
    have hr1 : Room 1 _ := hr.mono (by decide)
    refine ⟨_, (pss_cons (L2N.ps_try_as (i := 3) (Wout := fun _ _ _ _ => False) (ts := fun a cls d => _) rfl rfl scSr.nd rfl rfl ⟨rfl, by decide, .inl R.gT⟩ RN.takes0N
        (fun W pn xe tk _ => pss_one (ps_set (i := 0) scSr.nd rfl (.inl rfl) (RB.pe_binO (pv 0) (pv 1) O.adG O.ad O.adB hr (fun σ => L2N.passAt tk σ))))
        (fun a oe cls d pn hz hf => pss_one (ps_ret (pe_and (L2H.pe_callH (E := fun _ => E0) G_number ⟨hr1.dp, hr1.un⟩ ⟨(a, oe), ⟨rfl, let ⟨vs, hv⟩ := hf; ⟨vs, hv, hz.2.2 vs hv⟩⟩, List.mem_cons_self⟩ (by rfl) g_number F_number.kp b_number (fun _ _ _ _ _ _ _ c => c.elim) (pa_cons (pe_xf xT R.nT hz.zc hf (pv 3)) pa_nil)) (pe_one (pe_cmpR op_eq (pe_xf xT R.nT hz.zc hf (pv 3)) (pv 2) (nomark _)))))))
      (pss_one (ps_ret pe_bl))), ?_⟩
    obtain ⟨dx, h1⟩ := g1.ins
    obtain ⟨dy, h2⟩ := g2.ins
    refine ⟨.ref p, rfl, .ref r, rfl, p, r, dx, fs3 l, dy, fs3 m, rfl, rfl, h1, h2, p, r, l, m, bs, cs, rfl, g1, g2, hs, fun _ H1 d s1 hd => ?_, fun hz => absurd hz (by omega)⟩
    have sd := s1.trans (same_new hd (o := .xd [("many", .int ((dueN (bs ++ cs) : Nat) : Int))]))
    refine ⟨true, R.tt, fun _ e he => ?_, fun z => nomatch z⟩
    refine ⟨.ref e, rfl, rfl, rfl, d, _, .int ((dueN (bs ++ cs) : Nat) : Int), rfl, upd_same, rfl, _, rfl, _, rfl, iteT ⟨.ref e, rfl, rfl, rfl, d, _, .int ((dueN (bs ++ cs) : Nat) : Int), rfl, upd_same, rfl, .int _, rfl, rfl, ?_⟩⟩
    rw [decide_eq_true rfl]; exact q _ sd
/-! ### _law_added -/
def spAdd' (C : Addr) : Sp := fun vs H Q _ => ∃ (p q : Addr) (l m : L3) (bs cs : List Bk), vs = [.ref p, .ref q, .int ((dueN (bs ++ cs) : Nat) : Int)] ∧ GalA C H p l bs ∧ GalA C H q m cs ∧ Small (bs ++ cs) ∧
  (0 < dueN (bs ++ cs) → ∀ H', Same H H' → Q (.bl true) H') ∧ (dueN (bs ++ cs) = 0 → ∀ H' l', (∀ b o, b ≠ p → H b = some o → H' b = some o) → GalA C H' p l' (bs ++ cs) → Q (.bl true) H')
theorem scAd : FnScope nSr p3 (defScope sAdded) := ⟨rfl, rfl, rfl, by decide +kernel, rfl, by decide +kernel, by decide +kernel⟩
theorem ok_added {f f_number : Addr} {fd fd_number : FuncData} (B : Blt mg) (O : Ops P w K mg base C CT CN fa fj fe fb da dj de db) (R : Ers K mg CT CN CL) (F : Fun K "_law_added" "_law_added" sAdded f fd)
    (F_number : Fun K "_law_number" "_law_number" sNumber f_number fd_number) (b_number : Binds K fd_number ["_law_value"] []) (g_number : mg "_law_number" = some (.ref f_number)) : FnOk P w K mg base CX0 7 f fd p3 (spAdd' C) := by
  have G_number : L2H.FnH P w K mg base CX0 1 f_number fd_number ["_law_value"] spNumber := ok_numberH B F_number
  have xT : XfC K CT := ⟨R.xT.hg, R.xT.hk, R.xT.hs, R.xT.hd⟩
  refine F.ok scAd (fun vs H Q E h => ?_) (fun cdv A0 outer s H vs Q E hr h => ?_)
  · obtain ⟨p, q, l, m, bs, cs, rfl, _⟩ := h; rfl
  · obtain ⟨p, r, l, m, bs, cs, rfl, g1, g2, hs, qe, q⟩ := h
    have hr1 : Room 1 _ := hr.mono (by decide)
    refine ⟨_, (pss_cons (L2N.ps_try_as (i := 3) (Wout := fun _ _ _ _ => False) (ts := fun a cls d => _) rfl rfl scAd.nd rfl rfl ⟨rfl, by decide, .inl R.gT⟩ RN.takes0N
        (fun W pn xe tk _ => pss_one (RB.ps_augO (i := 0) scAd.nd rfl (.inl rfl) (pv 1) O.iaG O.ia O.iaB hr (fun σ => L2N.passAt tk σ)))
        (fun a oe cls d pn hz hf => pss_one (ps_ret (pe_and (pe_cmpR op_gt (pv 2) pe_int (nomark _)) (pe_and (L2H.pe_callH (E := fun _ => E0) G_number ⟨hr1.dp, hr1.un⟩ ⟨(a, oe), ⟨rfl, let ⟨vs, hv⟩ := hf; ⟨vs, hv, hz.2.2 vs hv⟩⟩, List.mem_cons_self⟩ (by rfl) g_number F_number.kp b_number (fun _ _ _ _ _ _ _ c => c.elim) (pa_cons (pe_xf xT R.nT hz.zc hf (pv 3)) pa_nil)) (pe_one (pe_cmpR op_eq (pe_xf xT R.nT hz.zc hf (pv 3)) (pv 2) (nomark _))))))))
      (pss_one (ps_ret (pe_cmpR op_eq (pv 2) pe_int (nomark _))))), ?_⟩
    obtain ⟨dx, h1⟩ := g1.ins
    refine ⟨.ref p, rfl, .ref r, rfl, p, r, dx, fs3 l, rfl, rfl, h1, p, r, l, m, bs, cs, rfl, g1, g2, hs, fun h0 H1 d s1 hd => ?_, fun hz H1 l' hk g => ⟨⟨p, rfl⟩, .int _, rfl, rfl, ?_⟩⟩
    · have sd := s1.trans (same_new hd (o := .xd [("many", .int ((dueN (bs ++ cs) : Nat) : Int))]))
      refine ⟨true, R.tt, fun _ e he => ?_, fun z => nomatch z⟩
      refine ⟨.int _, rfl, _, _, rfl, rfl, _, rfl, ?_⟩
      rw [decide_eq_true (show (((dueN (bs ++ cs) : Nat) : Int)) > 0 by omega)]
      refine iteT ⟨.ref e, rfl, rfl, rfl, d, _, .int ((dueN (bs ++ cs) : Nat) : Int), rfl, upd_same, rfl, _, rfl, _, rfl, iteT ⟨.ref e, rfl, rfl, rfl, d, _, .int ((dueN (bs ++ cs) : Nat) : Int), rfl, upd_same, rfl, .int _, rfl, rfl, ?_⟩⟩
      rw [decide_eq_true rfl]; exact qe h0 _ sd
    · rw [hz]
      exact q hz H1 l' hk g
/-! ### _law_no_piece -/
def spNp (C : Addr) : Sp := fun vs H Q _ => ∃ (p : Addr) (l : L3) (bs : List Bk) (at_ : Int), vs = [.ref p, .int at_] ∧ GalA C H p l bs ∧ ¬ (0 ≤ at_ ∧ at_ < (((pcs bs).length : Nat) : Int)) ∧ ∀ H', Same H H' → Q (.bl true) H'
abbrev nNp : List Str := ["_law_galley", "_law_at", "e", "_law_own"]
theorem scNp : FnScope nNp ["_law_galley", "_law_at"] (defScope sNoPiece) := ⟨rfl, rfl, rfl, by decide +kernel, rfl, by decide +kernel, by decide +kernel⟩
theorem ok_no_piece {f f_number : Addr} {fd fd_number : FuncData} (B : Blt mg) (T : Gly K mg C) (O : Ops P w K mg base C CT CN fa fj fe fb da dj de db) (R : Ers K mg CT CN CL) (F : Fun K "_law_no_piece" "_law_no_piece" sNoPiece f fd)
    (F_number : Fun K "_law_number" "_law_number" sNumber f_number fd_number) (b_number : Binds K fd_number ["_law_value"] []) (g_number : mg "_law_number" = some (.ref f_number)) : FnOk P w K mg base CX0 4 f fd ["_law_galley", "_law_at"] (spNp C) := by
  have G_number : L2H.FnH P w K mg base CX0 1 f_number fd_number ["_law_value"] spNumber := ok_numberH B F_number
  have xN : XfC K CN := ⟨R.xN.hg, R.xN.hk, R.xN.hs, R.xN.hd⟩
  refine F.ok scNp (fun vs H Q E h => ?_) (fun cdv A0 outer s H vs Q E hr h => ?_)
  · obtain ⟨p, l, bs, at_, rfl, _⟩ := h; rfl
  · obtain ⟨p, l, bs, at_, rfl, g, hno, q⟩ := h
    have hr1 : Room 1 _ := hr.mono (by decide)
    refine ⟨_, (pss_cons (L2N.ps_try_as (i := 2) (Wout := fun _ _ _ _ => False) (ts := fun a cls d => _) rfl rfl scNp.nd rfl rfl ⟨rfl, by decide, .inl R.gN⟩ RN.takes0N
        (fun W pn xe tk _ => pss_one (ps_expr (RD.pe_methD (pv 0) T.cl O.bl O.blT O.blG hr O.blB (fun σ => L2N.passAt tk σ) (pa_cons (pv 1) pa_nil))))
        (fun a oe cls d pn hz hf => pss_cons (ps_set (i := 3) scNp.nd rfl (.inl rfl) (pe_and (pe_callB (call_isD R.xN hz.zc hf) (by rfl) B.isi (by decide +kernel) (pa_cons (pv 2) (pa_cons (pe_glob (v := .ref CL) (by rfl) R.gL rfl) pa_nil))) (pe_one (pe_not (pe_callB (call_isD R.xN hz.zc hf) (by rfl) B.isi (by decide +kernel) (pa_cons (pv 2) (pa_cons (pe_glob (v := .ref CT) (by rfl) R.gT rfl) pa_nil)))))))
          (pss_one (ps_ret (pe_and (pv 3) (pe_and (L2H.pe_callH (E := fun _ => E0) G_number ⟨hr1.dp, hr1.un⟩ ⟨(a, oe), ⟨rfl, let ⟨vs, hv⟩ := hf; ⟨vs, hv, hz.2.2 vs hv⟩⟩, List.mem_cons_self⟩ (by rfl) g_number F_number.kp b_number (fun _ _ _ _ _ _ _ c => c.elim) (pa_cons (pe_xf xN R.nN hz.zc hf (pv 2)) pa_nil)) (pe_one (pe_cmpR op_eq (pe_xf xN R.nN hz.zc hf (pv 2)) (pv 1) (nomark _)))))))))
      (pss_one (ps_ret pe_bl))), ?_⟩
    obtain ⟨dx, h1⟩ := g.ins
    refine ⟨.ref p, rfl, p, dx, fs3 l, rfl, h1, rfl, .int at_, rfl, p, l, bs, at_, rfl, g, fun _ d hd => ?_, fun j ej k s e t hj ht => ?_⟩
    · have sd := same_new hd (o := .xd [("number", .int at_)])
      refine ⟨true, R.nn, fun _ e he => ?_, fun z => nomatch z⟩
      refine ⟨.ref e, rfl, .ref CL, .ref CL, true, d, _, rfl, rfl, fun u hu => hu, R.nL, rfl, upd_same, _, rfl, iteT ⟨.ref e, rfl, .ref CT, .ref CT, false, d, _, rfl, rfl, fun u hu => hu, R.nTT, rfl, upd_same, _, rfl, ?_⟩⟩
      refine ⟨.bl true, rfl, true, rfl, iteT ⟨.ref e, rfl, rfl, rfl, d, _, .int at_, rfl, upd_same, rfl, _, rfl, _, rfl, iteT ⟨.ref e, rfl, rfl, rfl, d, _, .int at_, rfl, upd_same, rfl, .int at_, rfl, rfl, ?_⟩⟩⟩
      rw [decide_eq_true rfl]; exact q _ sd
    · have := (List.getElem?_eq_some_iff.mp hj).1
      rw [spans_len] at this
      exact absurd ⟨by omega, by omega⟩ hno
/-! ### _law_equal -/
def spEqual (C : Addr) : Sp := fun vs H Q _ => ∃ (x y : V) (d : Bool), vs = [x, y, .bl d] ∧
  ((∃ (p q : Addr) (l m : L3) (bs cs : List Bk), x = .ref p ∧ y = .ref q ∧ GalA C H p l bs ∧ GalA C H q m cs ∧ PyData.eqv (bsD bs) (bsD cs) = d) ∨ ∃ (p a : Addr) (l : L3) (bs : List Bk) (xs : List V), x = .ref p ∧ y = .ref a ∧ GalA C H p l bs ∧ H a = some (.lst xs) ∧ d = false) ∧ Q (.bl true) H
abbrev pEl : List Str := ["_law_one", "_law_two", "_law_due_here"]
abbrev nEl : List Str := ["_law_one", "_law_two", "_law_due_here", "_law_told"]
theorem scEqual : FnScope nEl pEl (defScope sEqual) := ⟨rfl, rfl, rfl, by decide +kernel, rfl, by decide +kernel, by decide +kernel⟩
theorem ok_equal {f : Addr} {fd : FuncData} (B : Blt mg) (O : Ops P w K mg base C CT CN fa fj fe fb da dj de db) (F : Fun K "_law_equal" "_law_equal" sEqual f fd) : FnOk P w K mg base CX0 2 f fd pEl (spEqual C) := by
  refine F.ok scEqual (fun vs H Q E h => ?_) (fun cdv A0 outer s H vs Q E hr h => ?_)
  · obtain ⟨x, y, d, rfl, _⟩ := h; rfl
  · obtain ⟨x, y, d, rfl, ⟨p, r, l, m, bs, cs, rfl, rfl, g1, g2, e⟩ | ⟨p, a, l, bs, xs, rfl, rfl, g1, ha, rfl⟩, q⟩ := h
    · refine ⟨_, (pss_cons (ps_set (i := 3) scEqual.nd rfl (.inl rfl) (pe_cmpR (R7.op_eqOwn O.eqG O.eq.1 O.eq.2 O.eqB hr pass0) (pv 0) (pv 1) (nomark _)))
      (pss_one (ps_ret (pe_and (pe_callB call_isi (by rfl) B.isi (by decide +kernel) (pa_cons (pv 3) (pa_cons (pe_bltn (v := .ty "bool") (by rfl) B.bool (by decide +kernel) rfl) pa_nil))) (pe_one (pe_cmpR op_eq (pv 3) (pv 2) (nomark _))))))), ?_⟩
      obtain ⟨dx, h1⟩ := g1.ins
      obtain ⟨dy, h2⟩ := g2.ins
      refine ⟨.ref p, rfl, .ref r, rfl, p, dx, fs3 l, r, dy, fs3 m, rfl, rfl, h1, h2, p, r, l, m, bs, cs, rfl, g1, g2, _, rfl, ?_⟩
      refine ⟨.bl _, rfl, .bl _, .ty "bool", .type "bool", .type "bool", true, rfl, .ty "bool", .base (.bl _), kit_ty (by decide +kernel), _, rfl, iteT ⟨.bl _, rfl, .bl d, rfl, rfl, ?_⟩⟩
      rw [e, decide_eq_true rfl]; exact q
    · refine ⟨_, (pss_cons (ps_set (i := 3) scEqual.nd rfl (.inl rfl) (pe_cmpR (RL.op_niL (.inl ⟨rfl, rfl⟩) O.eq.1 O.eq.2 O.nol O.eqN hr) (pv 0) (pv 1) (nomark _)))
      (pss_one (ps_ret (pe_and (pe_callB call_isi (by rfl) B.isi (by decide +kernel) (pa_cons (pv 3) (pa_cons (pe_bltn (v := .ty "bool") (by rfl) B.bool (by decide +kernel) rfl) pa_nil))) (pe_one (pe_cmpR op_eq (pv 3) (pv 2) (nomark _))))))), ?_⟩
      obtain ⟨dx, h1⟩ := g1.ins
      refine ⟨.ref p, rfl, .ref a, rfl, p, dx, fs3 l, a, xs, rfl, rfl, h1, ha, p, a, xs, rfl, ha, ⟨dx, fs3 l, h1⟩, ⟨xs, ha⟩, ?_⟩
      refine ⟨.bl false, rfl, .bl false, .ty "bool", .type "bool", .type "bool", true, rfl, .ty "bool", .base (.bl _), kit_ty (by decide +kernel), _, rfl, iteT ⟨.bl false, rfl, .bl false, rfl, rfl, ?_⟩⟩
      rw [decide_eq_true rfl]; exact q
end
end K34

set_option maxRecDepth 100000
set_option maxHeartbeats 8000000
namespace K34
open PySem PySem.Spec PyProof.Rows L2
/-! ### the same through and through -/
theorem leaf_same {n : Nat} {H : Hp} {x : V} (h : Leaf x) : SameV n H x x := by
  cases n with
  | zero => exact ⟨rfl, h⟩
  | succ n => exact .inl ⟨rfl, h⟩
theorem li (i : Int) : Leaf (.int i) := .inr (.inl ⟨i, rfl⟩)
theorem lb (b : Bool) : Leaf (.bl b) := .inr (.inr ⟨b, rfl⟩)
theorem ls (z : Str) : Leaf (.str z) := .inl ⟨z, rfl⟩
theorem tup_same2 {n : Nat} {H : Hp} {a b : Addr} {xs : List V} (h : H a = some (.tup xs)) (h2 : H b = some (.tup xs)) (hl : xs.length ≤ 1000) (hx : ∀ x ∈ xs, SameV n H x x) : SameV (n + 1) H (.ref a) (.ref b) :=
  .inr ⟨a, b, xs, xs, rfl, rfl, .inr ⟨h, h2⟩, rfl, hl, fun i u v hu hv => by rw [hu] at hv; cases hv; exact hx u (List.mem_of_getElem? hu)⟩
theorem lst_same2 {n : Nat} {H : Hp} {a b : Addr} {xs : List V} (h : H a = some (.lst xs)) (h2 : H b = some (.lst xs)) (hl : xs.length ≤ 1000) (hx : ∀ x ∈ xs, SameV n H x x) : SameV (n + 1) H (.ref a) (.ref b) :=
  .inr ⟨a, b, xs, xs, rfl, rfl, .inl ⟨h, h2⟩, rfl, hl, fun i u v hu hv => by rw [hu] at hv; cases hv; exact hx u (List.mem_of_getElem? hu)⟩
theorem ints_leaf {l : List Int} : ∀ x ∈ l.map V.int, Leaf x := fun x hx => by
  obtain ⟨i, _, rfl⟩ := List.mem_map.mp hx
  exact li i
theorem pc_same {H : Hp} {p : Pc} (h : PcT H p) : SameV 2 H (.ref p.t) (.ref p.t) := by
  obtain ⟨h1, h2, h3, h4, h5, h6, h7⟩ := h
  refine tup_same2 h1 h1 (by show 4 ≤ 1000; decide) fun x hx => ?_
  have hc : x = .int p.h ∨ x = .ref p.ti ∨ x = .ref p.no ∨ x = .ref p.ca := by simpa using hx
  rcases hc with rfl | rfl | rfl | rfl
  · exact leaf_same (li _)
  · refine tup_same2 h2 h2 ?_ fun x hx => leaf_same ?_
    · unfold tieV
      rw [List.length_cons, List.length_map]
      cases p.tn with
      | none => show 0 + 1 ≤ 1000; decide
      | some i => show 1 + 1 ≤ 1000; decide
    · rcases List.mem_cons.mp hx with rfl | hx
      · exact ls _
      · exact ints_leaf _ hx
  · exact tup_same2 h4 h4 (by rw [List.length_map]; omega) fun x hx => leaf_same (ints_leaf _ hx)
  · exact tup_same2 h6 h6 (by rw [List.length_map]; omega) fun x hx => leaf_same (ints_leaf _ hx)
theorem pcs_same {H : Hp} {ps : List Pc} (h : ∀ p ∈ ps, PcT H p) : ∀ x ∈ pv' ps, SameV 2 H x x := fun x hx => by
  obtain ⟨p, hp, rfl⟩ := List.mem_map.mp hx
  exact pc_same (h p hp)
theorem bk_same {H : Hp} {b : Bk} (h : BkT H b) : SameV 4 H (.ref b.t) (.ref b.t) := by
  obtain ⟨h1, h2, h3, h4⟩ := h
  refine tup_same2 h1 h1 (by show 5 ≤ 1000; decide) fun x hx => ?_
  have hc : x = .int b.a ∨ x = .int b.b ∨ x = .int b.c ∨ x = .bl b.f ∨ x = .ref b.pt := by simpa using hx
  rcases hc with rfl | rfl | rfl | rfl | rfl
  · exact leaf_same (li _)
  · exact leaf_same (li _)
  · exact leaf_same (li _)
  · exact leaf_same (lb _)
  · exact tup_same2 h2 h2 (by rw [pv_len]; omega) (pcs_same h4)
theorem bs_same {H : Hp} {bs : List Bk} {a b : Addr} (h : BsT H bs) (ha : H a = some (.lst (bv bs))) (hb : H b = some (.lst (bv bs))) (hl : bs.length ≤ 200) : SameV 5 H (.ref a) (.ref b) :=
  lst_same2 ha hb (by rw [bv_len]; omega) fun x hx => by
    obtain ⟨p, hp, rfl⟩ := List.mem_map.mp hx
    exact bk_same (h p hp)
theorem ne_of_none' {H H' : Hp} {r S : Addr} {x y : HO} (h : H' S = some x) (n : H r = none) (h2 : H S = some y) : r ≠ S := fun e => by rw [e, h2] at n; cases n
theorem flat_len {α β : Type} (f : α → List β) (l : List α) (i : Nat) : ((l.take i).flatMap f).length ≤ (l.flatMap f).length := by
  have h : l.flatMap f = (l.take i).flatMap f ++ (l.drop i).flatMap f := by rw [← List.flatMap_append, List.take_append_drop]
  rw [h, List.length_append]; omega
/-- what the class shows by -/
structure Shw (P : Program) (w : World) (K : PySem.W.Frag) (mg : Str → Option Value) (base : Heap) (C fi fl pp gp pf gf : Addr) (di dl dp df : FuncData) : Prop where
  it : PySem.W.findIn K (.ref C) "__iter__" = some (some (.ref fi)) ∧ PySem.W.isFn K (.ref fi) = true
  itG : RO.FnN P w K mg base CX0 1 fi di ["self"] (RO.spIt C "_blocks")
  itB : Binds K di ["self"] []
  ln : PySem.W.findIn K (.ref C) "__len__" = some (some (.ref fl)) ∧ PySem.W.typeIn K (.ref fl) = some (.type "function")
  lnG : FnOk P w K mg base CX0 1 fl dl ["self"] (spLen C)
  lnB : Binds K dl ["self"] []
  pp : PropOf K C "pieces" pp gp
  ppG : FnOk P w K mg base CX0 1 gp dp ["self"] (spPcs C)
  ppB : Binds K dp ["self"] []
  fp : PropOf K C "figures" pf gf
  fpG : FnOk P w K mg base CX0 2 gf df ["self"] (spFgs C)
  fpB : Binds K df ["self"] []
def spShows (C : Addr) : Sp := fun vs H Q _ => ∃ (p a : Addr) (l : L3) (bs : List Bk), vs = [.ref p, .ref a] ∧ GalA C H p l bs ∧ H a = some (.lst (bv bs)) ∧ Small bs ∧ ∀ H', Same H H' → Q (.bl true) H'
abbrev pSh : List Str := ["_law_galley", "_law_blocks"]
abbrev nSh : List Str := ["_law_galley", "_law_blocks", "_law_spans", "_law_pieces", "_law_heights", "_law_b", "_law_start", "_law_piece", "_law_turn", "_law_told", "_law_calls", "_law_k", "_law_at", "_law_block"]
theorem scShows : FnScope nSh pSh (defScope sShows) := ⟨rfl, rfl, rfl, by decide +kernel, rfl, by decide +kernel, by decide +kernel⟩
section
variable {P : Program} {w : World} {K : PySem.W.Frag} {mg : Str → Option Value} {base : Heap} {t1 t2 : Tok} {C CT CN CL fa fj fe fb fi fl pp gp pf gf : Addr} {da dj de db di dl dp df : FuncData}
theorem ok_shows {f f_same f_no_piece f_number : Addr} {fd fd_same fd_no_piece fd_number : FuncData} (B : Blt mg) (T : Gly K mg C) (O : Ops P w K mg base C CT CN fa fj fe fb da dj de db) (S : Shw P w K mg base C fi fl pp gp pf gf di dl dp df) (R : Ers K mg CT CN CL) (F : Fun K "_law_shows" "_law_shows" sShows f fd)
    (F_same : Fun K "_law_same" "_law_same" sSame f_same fd_same) (b_same : Binds K fd_same ["_law_one", "_law_two"] []) (g_same : mg "_law_same" = some (.ref f_same))
    (F_no_piece : Fun K "_law_no_piece" "_law_no_piece" sNoPiece f_no_piece fd_no_piece) (b_no_piece : Binds K fd_no_piece ["_law_galley", "_law_at"] []) (g_no_piece : mg "_law_no_piece" = some (.ref f_no_piece))
    (F_number : Fun K "_law_number" "_law_number" sNumber f_number fd_number) (b_number : Binds K fd_number ["_law_value"] []) (g_number : mg "_law_number" = some (.ref f_number)) : FnOk P w K mg base CX0 7 f fd pSh (spShows C) := by
  have G_no_piece : FnOk P w K mg base CX0 4 f_no_piece fd_no_piece ["_law_galley", "_law_at"] (spNp C) := ok_no_piece B T O R F_no_piece F_number b_number g_number
  refine F.ok scShows (fun vs H Q E h => ?_) (fun cdv A0 outer s H vs Q E hr h => ?_)
  · obtain ⟨p, a, l, bs, rfl, _⟩ := h; rfl
  · obtain ⟨p, a, l, bs, rfl, g, ha, ⟨hs1, hs2⟩, q⟩ := h
    have hr6 : Room 6 _ := hr
    have hr4 : Room 4 _ := hr.mono (by decide)
    have hr3 : Room 3 _ := hr.mono (by decide)
    have hr2 : Room 2 _ := hr.mono (by decide)
    have hr1 : Room 1 _ := hr.mono (by decide)
    refine ⟨_, (pss_cons (ps_par3 (i := 2) (j := 3) (l := 4) (by rfl) scShows.nd rfl rfl rfl (by decide) (by decide) (by decide) rfl rfl rfl (pa_cons (pe_lst pa_nil) (pa_cons (pe_lst pa_nil) (pa_cons (pe_lst pa_nil) pa_nil))) (by rfl))
      (pss_cons (ps_for (PassesOwn.never) rfl (pi_range1 (by rfl) B.range (pa_cons (pe_callB call_len (by rfl) B.len PySem.boot_len (pa_cons (pv 1) pa_nil)) pa_nil)) (pg_name (i := 5) scShows.nd rfl (.inl rfl))
      (pss_cons (ps_set (i := 6) scShows.nd rfl (.inl rfl) (pe_callB call_len (by rfl) B.len PySem.boot_len (pa_cons (pv 3) pa_nil)))
       (pss_one (ps_for (PassesOwn.never) rfl (pi_tup (pe_ix ix_tup (pe_ix ix_list (pv 1) (pv 5) (fun _ _ => rfl)) pe_int (fun _ _ => rfl))) (pg_name (i := 7) scShows.nd rfl (.inl rfl))
       (pss_cons (ps_expr (pe_bm PySem.F.plainAttrs_list PySem.F.slot_list_append PySem.F.type_list_append mt_append (pv 2) (pa_cons (pe_tup (pa_cons (pv 5) (pa_cons (pv 6) (pa_cons (pe_op op_add (pv 6) (pe_callB call_len (by rfl) B.len PySem.boot_len (pa_cons (pe_ix ix_tup (pe_ix ix_list (pv 1) (pv 5) (fun _ _ => rfl)) pe_int (fun _ _ => rfl)) pa_nil))) pa_nil)))) pa_nil)))
        (pss_cons (ps_expr (pe_bm PySem.F.plainAttrs_list PySem.F.slot_list_append PySem.F.type_list_append mt_append (pv 3) (pa_cons (pv 7) pa_nil)))
        (pss_one (ps_set (i := 4) scShows.nd rfl (.inl rfl) (pe_op op_cat (pv 4) (pe_callTy call_list_of (by rfl) B.list (by decide +kernel) (pa_cons (pe_ix ix_tup (pv 7) pe_int (fun _ _ => rfl)) pa_nil)))))))))))
      (pss_cons (ps_if (PW.pt (pw_or (pt_cmpR op_ne (pe_callB (RO.call_lenOwn S.ln.1 S.ln.2 S.lnG S.lnB hr2) (by rfl) B.len PySem.boot_len (pa_cons (pv 0) pa_nil)) (pe_callB call_len (by rfl) B.len PySem.boot_len (pa_cons (pv 3) pa_nil)) (nomark _)) (pw_or1 (pt_not (pt_val (pe_call (ok_same B F_same b_same g_same 5) hr6 (by rfl) g_same F_same.kp b_same .nil pass0 (pa_cons (pe_lc (own := [("_law_block", 13)]) (g := gName 13) (tt := tYes) rfl scShows.nd (RO.pi_ownL (⟨S.it.1, S.it.2, S.itG, S.itB⟩ : RO.ItrC _ C fi di "_blocks" 1) hr1 (pv 0)) (blkOk_by (N := nSh) (sc := defScope sShows) (by decide +kernel)) (fun _ _ _ _ _ => (pg_name (i := 13) scShows.nd rfl (.inl rfl))) (fun _ _ _ _ _ => pts_nil) (fun _ _ _ _ _ => (pv 13))) (pa_cons (pv 1) pa_nil))))))))
      (pss_one (ps_ret pe_bl))
      pss_nil)
      (pss_cons (ps_for (PassesOwn.never) rfl (pi_range1 (by rfl) B.range (pa_cons pe_int pa_nil)) (pg_name (i := 8) scShows.nd rfl (.inl rfl))
      (pss_cons (ps_par (i := 9) (j := 10) (by rfl) scShows.nd rfl rfl (by decide) rfl rfl (pa_cons (pe_prop (pv 0) T.cl S.pp S.ppG hr2 S.ppB .nil pass0 rfl) (pa_cons (pe_prop (pv 0) T.cl S.fp S.fpG hr3 S.fpB .nil pass0 rfl) pa_nil)) (by rfl))
       (pss_cons (ps_if (PW.pt (pw_or (pt_not (pt_val (pe_call (ok_same B F_same b_same g_same 3) hr4 (by rfl) g_same F_same.kp b_same .nil pass0 (pa_cons (pv 9) (pa_cons (pv 3) pa_nil))))) (pw_or1 (pt_not (pt_val (pe_call (ok_same B F_same b_same g_same 1) hr2 (by rfl) g_same F_same.kp b_same .nil pass0 (pa_cons (pv 10) (pa_cons (pv 4) pa_nil))))))))
       (pss_one (ps_ret pe_bl))
       pss_nil)
       (pss_cons (ps_expr (pe_bm PySem.F.plainAttrs_list PySem.F.slot_list_append PySem.F.type_list_append mt_append (pv 9) (pa_cons (pv 8) pa_nil)))
       (pss_one (ps_expr (pe_bm PySem.F.plainAttrs_list PySem.F.slot_list_insert PySem.F.type_list_insert mt_insert (pv 10) (pa_cons pe_int (pa_cons (pv 8) pa_nil)))))))))
      (pss_cons (ps_for (PassesOwn.never) rfl (pi_range1 (by rfl) B.range (pa_cons (pe_callB call_len (by rfl) B.len PySem.boot_len (pa_cons (pv 3) pa_nil)) pa_nil)) (pg_name (i := 11) scShows.nd rfl (.inl rfl))
      (pss_one (ps_if (pt_not (pt_val (pe_call (ok_same B F_same b_same g_same 1) hr2 (by rfl) g_same F_same.kp b_same .nil pass0 (pa_cons (pe_meth (pv 0) T.cl O.bl O.blG hr3 O.blB .nil passNN (pa_cons (pv 11) pa_nil)) (pa_cons (pe_ix ix_list (pv 2) (pv 11) (fun _ _ => rfl)) pa_nil)))))
       (pss_one (ps_ret pe_bl))
       pss_nil)))
      (pss_cons (ps_for (PassesOwn.never) rfl (pi_list (pe_lst (pa_cons (pe_un un_neg pe_int) (pa_cons (pe_callB call_len (by rfl) B.len PySem.boot_len (pa_cons (pv 3) pa_nil)) (pa_cons (pe_op op_add (pe_callB call_len (by rfl) B.len PySem.boot_len (pa_cons (pv 3) pa_nil)) pe_int) (pa_cons (pe_op op_sub (pe_un un_neg pe_int) (pe_callB call_len (by rfl) B.len PySem.boot_len (pa_cons (pv 3) pa_nil))) pa_nil)))))) (pg_name (i := 12) scShows.nd rfl (.inl rfl))
      (pss_one (ps_if (pt_not (pt_val (pe_call G_no_piece hr4 (by rfl) g_no_piece F_no_piece.kp b_no_piece .nil pass0 (pa_cons (pv 0) (pa_cons (pv 12) pa_nil)))))
       (pss_one (ps_ret pe_bl))
       pss_nil)))
      (pss_one (ps_ret pe_bl)))))))), ?_⟩
    obtain ⟨dx, hp⟩ := g.ins
    have hb : BsT H bs := let ⟨_, _, _, _, _, _, _, z⟩ := g; z
    have hfl := figs_len hb.pcs
    have sL : sizeLine = 16777216 := sizeLine_eq
    refine ⟨Nat.zero_le _, fun S0 nS => ⟨Nat.zero_le _, fun P0 nP => ⟨Nat.zero_le _, fun H0 nH => ⟨_, _, _, rfl, ?_⟩⟩⟩⟩
    have sA := same_new nS (o := .lst [])
    have sB := same_new nP (o := .lst [])
    have sC := same_new nH (o := .lst [])
    have hS : (upd (upd (upd H S0 (.lst [])) P0 (.lst [])) H0 (.lst [])) S0 = some (.lst []) := sC _ _ (sB _ _ upd_same)
    have hP : (upd (upd (upd H S0 (.lst [])) P0 (.lst [])) H0 (.lst [])) P0 = some (.lst []) := sC _ _ upd_same
    have hH : (upd (upd (upd H S0 (.lst [])) P0 (.lst [])) H0 (.lst [])) H0 = some (.lst []) := upd_same
    have nSP : S0 ≠ P0 := ne_of_none upd_same nP
    have nHS : H0 ≠ S0 := fun e => by rw [e] at nH; rw [sB _ _ upd_same] at nH; cases nH
    have nHP : H0 ≠ P0 := fun e => by rw [e, upd_same] at nH; cases nH
    have nP' : H P0 = none := sA.free nP
    have s1 := sA.trans (sB.trans sC)
    generalize upd (upd (upd H S0 (.lst [])) P0 (.lst [])) H0 (.lst []) = H1 at s1 hS hP hH ⊢
    clear sA sB sC nH nP
    refine ⟨.ref a, rfl, .ref a, bs.length, rfl, .inl ⟨_, SqL.of (s1 _ _ ha), (bv_len _).symm⟩, (bs.length : Int), rfl, by omega, by omega, ?_⟩
    rw [Int.toNat_natCast]
    refine for_range (lo := 0) (n := bs.length) (fun i σ H' => ∃ (y5 y6 y7 : Option V) (Hh : Addr) (ss : List V), σ = [some (.ref p), some (.ref a), some (.ref S0), some (.ref P0), some (.ref Hh), y5, y6, y7, none, none, none, none, none, none] ∧ Same H H' ∧ H' S0 = some (.lst ss) ∧ OwnT H' ss (spans 0 0 (bs.take i)) ∧ H' P0 = some (.lst (pv' (pcs (bs.take i)))) ∧ H' Hh = some (.lst ((figs (pcs (bs.take i))).map V.int)) ∧ Hh ≠ S0 ∧ Hh ≠ P0)
      ⟨none, none, none, H0, [], rfl, s1, hS, ⟨rfl, fun j k s e h => nomatch h⟩, hP, hH, nHS, nHP⟩ ?_ ?_
    · rintro i σ H2 hi ⟨y5, y6, y7, Hh, ss, rfl, sm, hS, hO, hP, hH, nHS, nHP⟩
      have e0 : (0 : Int) + (i : Int) = (i : Int) := by omega
      rw [e0]
      obtain ⟨b, en⟩ : ∃ b, bs[i]? = some b := ⟨_, List.getElem?_eq_getElem hi⟩
      have hle := flat_le (·.ps) en
      have hlp : (pcs (bs.take i)).length + b.ps.length ≤ 200 := by unfold pcs at hs2 ⊢; omega
      have hbm := hb b (List.mem_of_getElem? en)
      have hat : atI (bv bs) (i : Int) = some (.ref b.t) := atI_nat (bv_at en)
      obtain ⟨k1, k2, _, _⟩ := hbm.kp (Kp.of sm)
      refine ⟨.ref P0, rfl, .ref P0, (pcs (bs.take i)).length, rfl, .inl ⟨_, SqL.of hP, (pv_len _).symm⟩, ?_⟩
      refine ⟨.ref a, rfl, .int (i : Int), rfl, a, bv bs, (i : Int), .ref b.t, rfl, rfl, SqL.of (sm _ _ ha), hat, b.t, _, 4, .ref b.pt, rfl, rfl, SqT.of k1, rfl, b.pt, rfl, ⟨_, SqT.of k2⟩, ?_⟩
      refine for_tup (K := K) (a := b.pt) (xs := pv' b.ps) (fun j σ H' => ∃ (y7 : Option V) (Hh : Addr) (ss : List V), σ = [some (.ref p), some (.ref a), some (.ref S0), some (.ref P0), some (.ref Hh), some (.int (i : Int)), some (.int (((pcs (bs.take i)).length : Nat) : Int)), y7, none, none, none, none, none, none] ∧ Same H H' ∧ H' S0 = some (.lst ss) ∧ OwnT H' ss (spans 0 0 (bs.take i) ++ List.replicate j (i, (pcs (bs.take i)).length, (pcs (bs.take i)).length + b.ps.length)) ∧ H' P0 = some (.lst (pv' (pcs (bs.take i) ++ b.ps.take j))) ∧ H' Hh = some (.lst ((figs (pcs (bs.take i) ++ b.ps.take j)).map V.int)) ∧ Hh ≠ S0 ∧ Hh ≠ P0)
        ⟨y7, Hh, ss, rfl, sm, hS, by rw [List.replicate_zero, List.append_nil]; exact hO, by rw [List.take_zero, List.append_nil]; exact hP, by rw [List.take_zero, List.append_nil]; exact hH, nHS, nHP⟩ (fun j σ H' _ ⟨_, _, _, _, sm, _⟩ => SqT.of (hbm.kp (Kp.of sm)).2.1) ?_ ?_
      · rintro j x σ H3 hj ⟨y7, Hh, ss, rfl, sm, hS, hO, hP, hH, nHS, nHP⟩
        obtain ⟨pc, ep, rfl⟩ := of_pv hj
        have hjl := (List.getElem?_eq_some_iff.mp ep).1
        obtain ⟨k1, k2, _, k4⟩ := hbm.kp (Kp.of sm)
        have hssl : ss.length ≤ 200 := by rw [hO.1, List.length_append, List.length_replicate, spans_len]; omega
        have hfl2 : (figs (pcs (bs.take i) ++ b.ps.take j)).length ≤ 800 := by
          have h1 : ∀ x ∈ pcs (bs.take i) ++ b.ps.take j, PcT H3 x := fun x hx => by
            rcases List.mem_append.mp hx with hx | hx
            · obtain ⟨b', hb', hx⟩ := List.mem_flatMap.mp hx
              exact ((hb b' (List.mem_of_mem_take hb')).kp (Kp.of sm)).2.2.2 x hx
            · exact k4 x (List.mem_of_mem_take hx)
          have h2 := figs_len h1
          rw [List.length_append, List.length_take] at h2
          omega
        refine ⟨.ref S0, rfl, .inl ⟨rfl, _, SqL.of hS⟩, .int (i : Int), rfl, .int (((pcs (bs.take i)).length : Nat) : Int), rfl, .int (((pcs (bs.take i)).length : Nat) : Int), rfl, .ref a, rfl, .int (i : Int), rfl, a, bv bs, (i : Int), .ref b.t, rfl, rfl, SqL.of (sm _ _ ha), hat, b.t, _, 4, .ref b.pt, rfl, rfl, SqT.of k1, rfl, .ref b.pt, b.ps.length, rfl, .inr ⟨_, SqT.of k2, (pv_len _).symm⟩, _, _, rfl, rfl, by show 3 ≤ sizeLine; decide, fun t nt => ?_⟩
        have st := same_new nt (o := .tup [.int (i : Int), .int (((pcs (bs.take i)).length : Nat) : Int), .int ((((pcs (bs.take i)).length : Nat) : Int) + ((b.ps.length : Nat) : Int))])
        have ht : (upd H3 t (.tup [.int (i : Int), .int (((pcs (bs.take i)).length : Nat) : Int), .int ((((pcs (bs.take i)).length : Nat) : Int) + ((b.ps.length : Nat) : Int))])) t = some (.tup [.int (i : Int), .int (((pcs (bs.take i)).length : Nat) : Int), .int (((pcs (bs.take i)).length + b.ps.length : Nat) : Int)]) := by rw [upd_same, Int.natCast_add]
        refine ⟨S0, ss, .ref t, rfl, rfl, st _ _ hS, small1000 (by omega), ?_⟩
        have hS4 := st _ _ hS
        have hP4 := st _ _ hP
        have hH4 := st _ _ hH
        have hO4 := (hO.kp (Kp.of st)).app (m := 1) ht
        have s4 := sm.trans st
        have s5 : Same H (upd (upd H3 t (.tup [.int (i : Int), .int (((pcs (bs.take i)).length : Nat) : Int), .int ((((pcs (bs.take i)).length : Nat) : Int) + ((b.ps.length : Nat) : Int))])) S0 (.lst (ss ++ [.ref t]))) := same_at s4 nS
        have hO5 := hO4.kp (Kp.but hS4 (fun z => z) (upd_but (x := .lst (ss ++ [.ref t]))))
        have hP5 := upd_but (x := .lst (ss ++ [.ref t])) _ _ (Ne.symm nSP) hP4
        have hH5 := upd_but (x := .lst (ss ++ [.ref t])) _ _ nHS hH4
        have hS5 : (upd (upd H3 t (.tup [.int (i : Int), .int (((pcs (bs.take i)).length : Nat) : Int), .int ((((pcs (bs.take i)).length : Nat) : Int) + ((b.ps.length : Nat) : Int))])) S0 (.lst (ss ++ [.ref t]))) S0 = some (.lst (ss ++ [.ref t])) := upd_same
        show tSeq _ _ _ _ (upd (upd H3 t (.tup [.int (i : Int), .int (((pcs (bs.take i)).length : Nat) : Int), .int ((((pcs (bs.take i)).length : Nat) : Int) + ((b.ps.length : Nat) : Int))])) S0 (.lst (ss ++ [.ref t])))
        generalize upd (upd H3 t (.tup [.int (i : Int), .int (((pcs (bs.take i)).length : Nat) : Int), .int ((((pcs (bs.take i)).length : Nat) : Int) + ((b.ps.length : Nat) : Int))])) S0 (.lst (ss ++ [.ref t])) = H5 at s5 hO5 hP5 hH5 hS5 ⊢
        clear hS4 hP4 hH4 hO4 s4 ht st
        refine ⟨.ref P0, rfl, .inl ⟨rfl, _, SqL.of hP5⟩, .ref pc.t, rfl, P0, _, .ref pc.t, rfl, rfl, hP5, (by rw [pv_len, List.length_append, List.length_take]; exact small1000 (by omega)), ?_⟩
        have s6 := same_at (x := .lst (pv' (pcs (bs.take i) ++ b.ps.take j) ++ [V.ref pc.t])) s5 nP'
        have hO6 := hO5.kp (Kp.but hP5 (fun z => z) (upd_but (x := .lst (pv' (pcs (bs.take i) ++ b.ps.take j) ++ [V.ref pc.t]))))
        have hS6 := upd_but (x := .lst (pv' (pcs (bs.take i) ++ b.ps.take j) ++ [V.ref pc.t])) _ _ nSP hS5
        have hH6 := upd_but (x := .lst (pv' (pcs (bs.take i) ++ b.ps.take j) ++ [V.ref pc.t])) _ _ nHP hH5
        have hP6 : (upd H5 P0 (.lst (pv' (pcs (bs.take i) ++ b.ps.take j) ++ [V.ref pc.t]))) P0 = some (.lst (pv' (pcs (bs.take i) ++ b.ps.take j) ++ [V.ref pc.t])) := upd_same
        generalize upd H5 P0 (.lst (pv' (pcs (bs.take i) ++ b.ps.take j) ++ [V.ref pc.t])) = H6 at s6 hO6 hS6 hH6 hP6 ⊢
        obtain ⟨c1, _, _, _, _, c6, c7⟩ := (hbm.kp (Kp.of s6)).2.2.2 pc (List.mem_of_getElem? ep)
        refine ⟨.ref Hh, rfl, .ref pc.t, rfl, pc.t, _, 3, .ref pc.ca, rfl, rfl, SqT.of c1, rfl, pc.ca, _, rfl, .inr (SqT.of c6), fun z nz => ?_⟩
        have sz := same_new nz (o := .lst (pc.calls.map V.int))
        refine ⟨Hh, z, _, _, rfl, rfl, sz _ _ hH6, upd_same, (by rw [List.length_map, List.length_map]; omega), fun r nr => ?_⟩
        have sr := same_new nr (o := .lst ((figs (pcs (bs.take i) ++ b.ps.take j)).map V.int ++ pc.calls.map V.int))
        have szr := sz.trans sr
        have e1 : b.ps.take (j + 1) = b.ps.take j ++ [pc] := by rw [List.take_add_one, ep]; rfl
        refine ⟨some (.ref pc.t), r, ss ++ [.ref t], rfl, s6.trans szr, szr _ _ hS6, ?_, ?_, ?_, ne_of_none' (szr _ _ hS6) (sz.free nr) hS6, ne_of_none' (szr _ _ hP6) (sz.free nr) hP6⟩
        · have e2 : List.replicate (j + 1) (i, (pcs (bs.take i)).length, (pcs (bs.take i)).length + b.ps.length) = List.replicate j (i, (pcs (bs.take i)).length, (pcs (bs.take i)).length + b.ps.length) ++ List.replicate 1 (i, (pcs (bs.take i)).length, (pcs (bs.take i)).length + b.ps.length) := List.replicate_succ'
          rw [e2, ← List.append_assoc]
          exact hO6.kp (Kp.of szr)
        · rw [e1, ← List.append_assoc, ← pv_snoc]
          exact szr _ _ hP6
        · rw [e1, ← List.append_assoc, upd_same]
          unfold figs
          rw [List.flatMap_append, List.map_append]
          simp
      · rintro σ H3 ⟨y7, Hh, ss, rfl, sm, hS, hO, hP, hH, nHS, nHP⟩
        rw [pv_len, List.take_length] at hP hH
        rw [pv_len] at hO
        have e1 : pcs (bs.take (i + 1)) = pcs (bs.take i) ++ b.ps := by unfold pcs; rw [flat_take _ en]
        exact ⟨_, _, _, Hh, ss, rfl, sm, hS, by rw [spans_take en]; exact hO, by rw [e1]; exact hP, by rw [e1]; exact hH, nHS, nHP⟩
    rintro σ H2 ⟨y5, y6, y7, Hh, ss, rfl, s2, hS, hO, hP, hH, nHS, nHP⟩
    rw [List.take_length] at hO hP hH
    obtain ⟨dx', os, g1, g2, g3, g4, g5, g6⟩ := id g
    refine ⟨.ref p, rfl, p, dx, fs3 l, (pcs bs).length, rfl, s2 _ _ hp, (by omega), ⟨p, l, bs, rfl, g.same s2, rfl, rfl⟩, .ref P0, rfl, .ref P0, (pcs bs).length, rfl, .inl ⟨_, SqL.of hP, (pv_len _).symm⟩, rfl, _, rfl, ?_⟩
    rw [decide_eq_true rfl]
    refine iteF ⟨.ref p, rfl, p, dx, l.1, fs3 l, bv bs, rfl, s2 _ _ hp, lk1 l, s2 _ _ g2, fun D hD => ?_⟩
    refine lc_list (K := K) (a := l.1) (xs := bv bs) (fun i H' => H' D = some (.lst ((bv bs).take i)) ∧ Same H2 H') ⟨upd_same, same_new hD⟩ (fun i H' _ ⟨_, s⟩ => SqL.of (s _ _ (s2 _ _ g2))) ?_ ?_
    · rintro i x H' hi ⟨hD', sm⟩
      refine ⟨rfl, x, rfl, _, hD', ?_, ?_, same_at sm hD⟩
      · rw [List.length_take, bv_len]; exact small1000 (by omega)
      · rw [upd_same, List.take_add_one, hi]; rfl
    rintro H3 ⟨hD3, s23⟩
    rw [List.take_length] at hD3
    have s3 := s2.trans s23
    have hP3 := s23 _ _ hP
    have hH3 := s23 _ _ hH
    have hS3 := s23 _ _ hS
    have hO3 := hO.kp (Kp.of s23)
    clear hP hH hS hO s2
    refine ⟨.ref a, rfl, _, _, rfl, bs_same (hb.kp (Kp.of s3)) hD3 (s3 _ _ ha) hs1, true, rfl, iteF ?_⟩
    refine ⟨2, rfl, by decide, by decide, ?_⟩
    refine for_range (lo := 0) (n := 2) (fun i σ H' => ∃ (y8 y9 y10 : Option V), σ = [some (.ref p), some (.ref a), some (.ref S0), some (.ref P0), some (.ref Hh), y5, y6, y7, y8, y9, y10, none, none, none] ∧ Same H3 H') ⟨none, none, none, rfl, Same.refl _⟩ ?_ ?_
    · rintro i σ H4 hi ⟨y8, y9, y10, rfl, sm⟩
      have s4 := s3.trans sm
      refine ⟨.ref p, rfl, p, dx, fs3 l, rfl, s4 _ _ hp, p, l, bs, rfl, g.same s4, fun r nr => ?_⟩
      have sr := same_new nr (o := .lst (pv' (pcs bs)))
      have hr5 : (upd H4 r (.lst (pv' (pcs bs)))) r = some (.lst (pv' (pcs bs))) := upd_same
      generalize upd H4 r (.lst (pv' (pcs bs))) = H5 at sr hr5 ⊢
      have s5 := s4.trans sr
      refine ⟨.ref p, rfl, p, dx, fs3 l, rfl, s5 _ _ hp, p, l, bs, rfl, g.same s5, hs2, fun H6 r2 s56 nr2 hr26 => ⟨_, _, rfl, ?_⟩⟩
      have s36 := sm.trans (sr.trans s56)
      have s6 := s3.trans s36
      have hr6 := s56 _ _ hr5
      refine ⟨.ref r, rfl, .ref P0, rfl, _, _, rfl, lst_same2 hr6 (s36 _ _ hP3) (by rw [pv_len]; omega) (pcs_same (hb.kp (Kp.of s6)).pcs), true, rfl, iteF ⟨.ref r2, rfl, .ref Hh, rfl, _, _, rfl, lst_same2 hr26 (s36 _ _ hH3) (by rw [List.length_map]; omega) (fun x hx => leaf_same (ints_leaf _ hx)), true, rfl, iteF ?_⟩⟩
      refine ⟨.ref r, rfl, .inl ⟨rfl, _, SqL.of hr6⟩, _, rfl, r, _, _, rfl, rfl, hr6, (by rw [pv_len]; exact small1000 (by omega)), ?_⟩
      have nr12 : r2 ≠ r := fun e => by rw [e, hr5] at nr2; cases nr2
      have hr27 := upd_but (x := .lst (pv' (pcs bs) ++ [V.int (0 + (i : Int))])) _ _ nr12 hr26
      refine ⟨.ref r2, rfl, .inl ⟨rfl, _, SqL.of hr27⟩, _, rfl, r2, _, 0, _, rfl, rfl, hr27, (by rw [List.length_map]; exact small1000 (by omega)), by decide, by decide, ?_⟩
      exact ⟨_, _, _, rfl, same_at (same_at s36 (sm.free nr)) ((sm.trans sr).free nr2)⟩
    rintro σ H4 ⟨y8, y9, y10, rfl, s34⟩
    have s4 := s3.trans s34
    have hP4 := s34 _ _ hP3
    have hS4 := s34 _ _ hS3
    have hO4 := hO3.kp (Kp.of s34)
    clear hP3 hH3 hS3 hO3 s34
    refine ⟨.ref P0, rfl, .ref P0, (pcs bs).length, rfl, .inl ⟨_, SqL.of hP4, (pv_len _).symm⟩, ((pcs bs).length : Int), rfl, by omega, by omega, ?_⟩
    rw [Int.toNat_natCast]
    refine for_range (lo := 0) (n := (pcs bs).length) (fun i σ H' => ∃ (y11 : Option V), σ = [some (.ref p), some (.ref a), some (.ref S0), some (.ref P0), some (.ref Hh), y5, y6, y7, y8, y9, y10, y11, none, none] ∧ H4 = H') ⟨none, rfl, rfl⟩ ?_ ?_
    · rintro i σ H' hi ⟨y11, rfl, rfl⟩
      have e0 : (0 : Int) + (i : Int) = (i : Int) := by omega
      rw [e0]
      have gi := g.same s4
      refine ⟨.ref p, rfl, p, dx, fs3 l, rfl, s4 _ _ hp, rfl, .int (i : Int), rfl, p, l, bs, (i : Int), rfl, gi, (fun z => absurd ⟨by omega, by omega⟩ z), fun j ej k s e t hj ht => ?_⟩
      obtain rfl : i = j := by omega
      obtain ⟨t', h1, h2⟩ := hO4.2 i k s e hj
      refine ⟨.ref S0, rfl, .int (i : Int), rfl, S0, _, (i : Int), .ref t', rfl, rfl, SqL.of hS4, atI_nat h1, _, _, rfl, tup_same2 ht h2 (by show 3 ≤ 1000; decide) (fun x hx => leaf_same (ints_leaf (l := [(k : Int), (s : Int), (e : Int)]) _ hx)), true, rfl, iteF ⟨_, rfl, rfl⟩⟩
    rintro σ H' ⟨y11, rfl, rfl⟩
    refine ⟨_, rfl, .ref P0, rfl, .ref P0, (pcs bs).length, rfl, .inl ⟨_, SqL.of hP4, (pv_len _).symm⟩, .ref P0, rfl, .ref P0, (pcs bs).length, rfl, .inl ⟨_, SqL.of hP4, (pv_len _).symm⟩, _, _, rfl, rfl, _, rfl, .ref P0, rfl, .ref P0, (pcs bs).length, rfl, .inl ⟨_, SqL.of hP4, (pv_len _).symm⟩, _, _, rfl, rfl, by show 4 ≤ sizeLine; decide, fun L nL => ?_⟩
    have sL' := same_new nL (o := .lst ([-1, ((pcs bs).length : Int), ((pcs bs).length : Int) + 1, -1 - ((pcs bs).length : Int)].map V.int))
    refine ⟨L, rfl, ⟨_, SqL.of upd_same⟩, for_list (K := K) (a := L) (xs := [-1, ((pcs bs).length : Int), ((pcs bs).length : Int) + 1, -1 - ((pcs bs).length : Int)].map V.int) (fun i σ H' => ∃ (y12 : Option V), σ = [some (.ref p), some (.ref a), some (.ref S0), some (.ref P0), some (.ref Hh), y5, y6, y7, y8, y9, y10, y11, y12, none] ∧ Same (upd H4 L (.lst ([-1, ((pcs bs).length : Int), ((pcs bs).length : Int) + 1, -1 - ((pcs bs).length : Int)].map V.int))) H') ⟨none, rfl, Same.refl _⟩ (fun i σ H' _ ⟨_, _, sm⟩ => SqL.of (sm _ _ upd_same)) ?_ ?_⟩
    · rintro i x σ H' hi ⟨y12, rfl, sm⟩
      have hx := List.mem_of_getElem? hi
      have hv : ∃ v : Int, x = .int v ∧ ¬ (0 ≤ v ∧ v < ((pcs bs).length : Int)) := by
        obtain ⟨v, hv, rfl⟩ := List.mem_map.mp hx
        have hc : v = -1 ∨ v = ((pcs bs).length : Int) ∨ v = ((pcs bs).length : Int) + 1 ∨ v = -1 - ((pcs bs).length : Int) := by simpa using hv
        exact ⟨v, rfl, by omega⟩
      obtain ⟨v, rfl, hno⟩ := hv
      exact ⟨.ref p, rfl, .int v, rfl, p, l, bs, v, rfl, g.same (s4.trans (sL'.trans sm)), hno, fun H'' s => ⟨true, rfl, iteF ⟨_, rfl, sm.trans s⟩⟩⟩
    · rintro σ H' ⟨y12, rfl, sm⟩
      exact q _ (s4.trans (sL'.trans sm))
end
end K34

set_option maxRecDepth 100000
set_option maxHeartbeats 8000000
namespace K34
open PySem PySem.Spec PyProof.Rows L2
theorem cutV_from (xs : List V) {m : Nat} (h : m ≤ xs.length) : cutV xs (some (m : Int)) none = xs.drop m := by
  unfold cutV
  rw [HT.sIx_none, HT.sIx_nat, Nat.min_eq_left h, List.take_of_length_le (by rw [List.length_drop]; exact Nat.le_refl _)]
theorem eqv_swap {b b' : Bk} (h : PyData.eqv (bkD b') (bkD b) = false) (zs : List Bk) : ∀ xs : List Bk, PyData.eqv (bsD (xs ++ b' :: zs)) (bsD (xs ++ b :: zs)) = false
  | [] => by
    show (PyData.eqv (bkD b') (bkD b) && PyData.eqvAll (zs.map bkD) (zs.map bkD)) = false
    rw [h]; rfl
  | x :: xs => by
    have ih := eqv_swap h zs xs
    show (PyData.eqv (bkD x) (bkD x) && PyData.eqv (bsD (xs ++ b' :: zs)) (bsD (xs ++ b :: zs))) = false
    rw [ih, Bool.and_false]
theorem eqv_last {p p' : Pc} (h : p'.h ≠ p.h) : ∀ xs : List Pc, PyData.eqvAll ((xs ++ [p']).map pcD) ((xs ++ [p]).map pcD) = false
  | [] => by
    show ((PyData.eqv (.int p'.h) (.int p.h) && _) && true) = false
    rw [show PyData.eqv (.int p'.h) (.int p.h) = false from beq_eq_false_iff_ne.mpr h]; rfl
  | x :: xs => by
    have ih := eqv_last h xs
    show (PyData.eqv (pcD x) (pcD x) && PyData.eqvAll ((xs ++ [p']).map pcD) ((xs ++ [p]).map pcD)) = false
    rw [ih, Bool.and_false]
theorem bk_ne {b b' : Bk} (h : b'.a ≠ b.a ∨ b'.b ≠ b.b ∨ b'.c ≠ b.c ∨ b'.f ≠ b.f ∨ PyData.eqvAll (b'.ps.map pcD) (b.ps.map pcD) = false) : PyData.eqv (bkD b') (bkD b) = false := by
  show ((b'.a == b.a) && ((b'.b == b.b) && ((b'.c == b.c) && ((b'.f == b.f) && (PyData.eqvAll (b'.ps.map pcD) (b.ps.map pcD) && true))))) = false
  rcases h with h | h | h | h | h
  · rw [beq_eq_false_iff_ne.mpr h]; rfl
  · rw [beq_eq_false_iff_ne.mpr h]; simp
  · rw [beq_eq_false_iff_ne.mpr h]; simp
  · rw [beq_eq_false_iff_ne.mpr h]; simp
  · rw [h]; simp
theorem swap_len {b b' : Bk} (h : b'.ps.length = b.ps.length) (hf : (figs b'.ps).length = (figs b.ps).length) (xs zs : List Bk) : (pcs (xs ++ b' :: zs)).length = (pcs (xs ++ b :: zs)).length ∧ (figs (pcs (xs ++ b' :: zs))).length = (figs (pcs (xs ++ b :: zs))).length := by
  have e : ∀ c : Bk, pcs (xs ++ c :: zs) = pcs xs ++ (c.ps ++ pcs zs) := fun c => by unfold pcs; rw [List.flatMap_append, List.flatMap_cons]
  have e2 : ∀ c : Bk, figs (pcs (xs ++ c :: zs)) = figs (pcs xs) ++ (figs c.ps ++ figs (pcs zs)) := fun c => by rw [e]; unfold figs; rw [List.flatMap_append, List.flatMap_append]
  rw [e2, e2, e, e]
  refine ⟨?_, ?_⟩
  · simp only [List.length_append]; omega
  · simp only [List.length_append]; omega
theorem due_of {bs bs' : List Bk} (h : (pcs bs').length = (pcs bs).length ∧ (figs (pcs bs')).length = (figs (pcs bs)).length) : dueN bs' = dueN bs := by unfold dueN; rw [h.1, h.2]
section
variable {P : Program} {w : World} {K : PySem.W.Frag} {mg : Str → Option Value} {base : Heap} {t1 t2 : Tok} {C CT CN CL fa fj fe fb : Addr} {da dj de db : FuncData}
/-! ### _law_copied -/
def spCopied : Sp := fun vs H Q _ => ∃ (a : Addr) (bs : List Bk), vs = [.ref a] ∧ H a = some (.lst (bv bs)) ∧ BsT H bs ∧ Small bs ∧ dueN bs = 0 ∧ ∀ H', Same H H' → Q (.bl true) H'
abbrev nCp : List Str := ["_law_blocks", "_law_handed", "_law_galley", "_law_twin"]
theorem scCopied : FnScope nCp ["_law_blocks"] (defScope sCopied) := ⟨rfl, rfl, rfl, by decide +kernel, rfl, by decide +kernel, by decide +kernel⟩
theorem ok_copied {f_init f f_same f_shows f_equal : Addr} {fd_init fd fd_same fd_shows fd_equal : FuncData} (B : Blt mg) (T : Gly K mg C) (M : Mk K C f_init) (O : Ops P w K mg base C CT CN fa fj fe fb da dj de db) (F : Fun K "_law_copied" "_law_copied" sCopied f fd)
    (G_init : FnOk P w K mg base (L2N.CX P w) 4 f_init fd_init pIn (spInit K C CT)) (b_init : Binds K fd_init pIn [])
    (F_same : Fun K "_law_same" "_law_same" sSame f_same fd_same) (b_same : Binds K fd_same ["_law_one", "_law_two"] []) (g_same : mg "_law_same" = some (.ref f_same))
    (F_shows : Fun K "_law_shows" "_law_shows" sShows f_shows fd_shows) (b_shows : Binds K fd_shows pSh []) (g_shows : mg "_law_shows" = some (.ref f_shows)) (G_shows : FnOk P w K mg base CX0 7 f_shows fd_shows pSh (spShows C))
    (F_equal : Fun K "_law_equal" "_law_equal" sEqual f_equal fd_equal) (b_equal : Binds K fd_equal pEl []) (g_equal : mg "_law_equal" = some (.ref f_equal)) : FnOk P w K mg base CX0 8 f fd ["_law_blocks"] spCopied := by
  have G_equal : FnOk P w K mg base CX0 2 f_equal fd_equal pEl (spEqual C) := ok_equal B O F_equal
  refine F.ok scCopied (fun vs H Q E h => ?_) (fun cdv A0 outer s H vs Q E hr h => ?_)
  · obtain ⟨a, bs, rfl, _⟩ := h; rfl
  · obtain ⟨a, bs, rfl, ha, hb, hs, h0, q⟩ := h
    have hr7 : Room 7 _ := hr
    have hr6 : Room 6 _ := hr.mono (by decide)
    have hr5 : Room 5 _ := hr.mono (by decide)
    have hr2 : Room 2 _ := hr.mono (by decide)
    refine ⟨_, (pss_cons (ps_set (i := 1) scCopied.nd rfl (.inl rfl) (pe_callTy call_list_of (by rfl) B.list (by decide +kernel) (pa_cons (pv 0) pa_nil)))
      (pss_cons (ps_par (i := 2) (j := 3) (by rfl) scCopied.nd rfl rfl (by decide) rfl rfl (pa_cons (pe_make M G_init hr5 (by rfl) T.mgC b_init .nil passNN (pa_cons (pv 1) pa_nil)) (pa_cons (pe_make M G_init hr5 (by rfl) T.mgC b_init .nil passNN (pa_cons (pv 1) pa_nil)) pa_nil)) (by rfl))
      (pss_cons (ps_if (pt_not (pt_val (pe_call (ok_same B F_same b_same g_same 5) hr6 (by rfl) g_same F_same.kp b_same .nil pass0 (pa_cons (pv 1) (pa_cons (pv 0) pa_nil)))))
      (pss_one (ps_ret pe_bl))
      pss_nil)
      (pss_cons (ps_expr (pe_bm0 PySem.F.plainAttrs_list PySem.F.slot_list_reverse PySem.F.type_list_reverse mt_reverse (pv 1)))
      (pss_cons (ps_expr (pe_bm PySem.F.plainAttrs_list PySem.F.slot_list_append PySem.F.type_list_append mt_append (pv 1) (pa_cons (pe_tup (pa_cons pe_int (pa_cons pe_int (pa_cons pe_int (pa_cons pe_bl (pa_cons (pe_tup (pa_cons (pe_tup (pa_cons pe_int (pa_cons (pe_tup (pa_cons pe_str pa_nil)) (pa_cons (pe_tup pa_nil) (pa_cons (pe_tup pa_nil) pa_nil))))) pa_nil)) pa_nil)))))) pa_nil)))
      (pss_cons (ps_if (PW.pt (pw_or (pt_not (pt_val (pe_call G_shows hr7 (by rfl) g_shows F_shows.kp b_shows .nil pass0 (pa_cons (pv 2) (pa_cons (pv 0) pa_nil))))) (pw_or1 (pt_not (pt_val (pe_call G_shows hr7 (by rfl) g_shows F_shows.kp b_shows .nil pass0 (pa_cons (pv 3) (pa_cons (pv 0) pa_nil))))))))
      (pss_one (ps_ret pe_bl))
      pss_nil)
      (pss_one (ps_ret (pe_and (pe_call G_equal hr2 (by rfl) g_equal F_equal.kp b_equal .nil pass0 (pa_cons (pv 2) (pa_cons (pv 3) (pa_cons pe_bl pa_nil)))) (pe_one (pe_call G_equal hr2 (by rfl) g_equal F_equal.kp b_equal .nil pass0 (pa_cons (pv 2) (pa_cons (pe_callTy call_list_of (by rfl) B.list (by decide +kernel) (pa_cons (pv 0) pa_nil)) (pa_cons pe_bl pa_nil)))))))))))))), ?_⟩
    refine ⟨.ref a, rfl, a, _, rfl, .inl (SqL.of ha), fun hd nhd => ?_⟩
    have s1 := same_new nhd (o := .lst (bv bs))
    have hh1 : (upd H hd (.lst (bv bs))) hd = some (.lst (bv bs)) := upd_same
    generalize upd H hd (.lst (bv bs)) = H1 at s1 hh1 ⊢
    have nahd : a ≠ hd := ne_of_none ha nhd
    refine ⟨.ref hd, rfl, fun p dx np ndx hne => ?_⟩
    have sM : Same H1 (upd (upd H1 dx (.own p)) p (.ins C dx [])) := made_up np ndx
    refine ⟨p, dx, hd, bs, rfl, upd_same, .inl (sM _ _ hh1), (hb.kp (Kp.of s1)).kp (Kp.of sM), hs, fun z => absurd z (by omega), fun _ H2 l hk hF g => ⟨rfl, ?_⟩⟩
    have s12 := made_same np ndx hk
    have hh2 := s12 _ _ hh1
    have f1 := (hF.same sM).ne hh1
    clear hF sM hk
    refine ⟨.ref hd, rfl, fun p2 dx2 np2 ndx2 hne2 => ?_⟩
    have sM : Same H2 (upd (upd H2 dx2 (.own p2)) p2 (.ins C dx2 [])) := made_up np2 ndx2
    have s02 := s1.trans s12
    refine ⟨p2, dx2, hd, bs, rfl, upd_same, .inl (sM _ _ hh2), (hb.kp (Kp.of s02)).kp (Kp.of sM), hs, fun z => absurd z (by omega), fun _ H3 l2 hk hF g2 => ⟨rfl, _, _, rfl, ?_⟩⟩
    have s23 := made_same np2 ndx2 hk
    have hh3 := s23 _ _ hh2
    have f2 := (hF.same sM).ne hh2
    have g1 := g.same s23
    have s03 := s02.trans s23
    refine ⟨.ref hd, rfl, .ref a, rfl, _, _, rfl, bs_same (hb.kp (Kp.of s03)) hh3 (s03 _ _ ha) hs.1, true, rfl, iteF ?_⟩
    refine ⟨.ref hd, rfl, .inl ⟨rfl, _, SqL.of hh3⟩, hd, _, rfl, rfl, hh3, ?_⟩
    have s4 := same_at (x := .lst (bv bs).reverse) s03 nhd
    have g1 := g1.but hh3 f1.1 f1.2.1 f1.2.2 (upd_but (x := .lst (bv bs).reverse))
    have g2 := g2.but hh3 f2.1 f2.2.1 f2.2.2 (upd_but (x := .lst (bv bs).reverse))
    have hh4 : (upd H3 hd (.lst (bv bs).reverse)) hd = some (.lst (bv bs).reverse) := upd_same
    generalize upd H3 hd (.lst (bv bs).reverse) = H4 at s4 g1 g2 hh4 ⊢
    refine ⟨.ref hd, rfl, .inl ⟨rfl, _, SqL.of hh4⟩, by show 1 ≤ sizeLine; decide, fun u1 n1 => ⟨Nat.zero_le _, fun u2 n2 => ⟨Nat.zero_le _, fun u3 n3 => ⟨by show 4 ≤ sizeLine; decide, fun u4 n4 => ⟨by show 1 ≤ sizeLine; decide, fun u5 n5 => ⟨by show 5 ≤ sizeLine; decide, fun u6 n6 => ?_⟩⟩⟩⟩⟩⟩
    have s5 : Same H4 (upd (upd (upd (upd (upd (upd H4 u1 (.tup [.str (Str.ofString "end")])) u2 (.tup [])) u3 (.tup [])) u4 (.tup [.int 1, .ref u1, .ref u2, .ref u3])) u5 (.tup [.ref u4])) u6 (.tup [.int 1, .int 0, .int 0, .bl false, .ref u5])) := (same_new n1).trans ((same_new n2).trans ((same_new n3).trans ((same_new n4).trans ((same_new n5).trans (same_new n6)))))
    generalize upd (upd (upd (upd (upd (upd H4 u1 (.tup [.str (Str.ofString "end")])) u2 (.tup [])) u3 (.tup [])) u4 (.tup [.int 1, .ref u1, .ref u2, .ref u3])) u5 (.tup [.ref u4])) u6 (.tup [.int 1, .int 0, .int 0, .bl false, .ref u5]) = H5 at s5 ⊢
    clear n1 n2 n3 n4 n5 n6
    have hh5 := s5 _ _ hh4
    refine ⟨hd, _, .ref u6, rfl, rfl, hh5, (by rw [List.length_reverse, bv_len]; exact small1000 (by have := hs.1; omega)), ?_⟩
    have s6 := same_at (x := .lst ((bv bs).reverse ++ [V.ref u6])) (s4.trans s5) nhd
    have g1 := (g1.same s5).but hh5 f1.1 f1.2.1 f1.2.2 (upd_but (x := .lst ((bv bs).reverse ++ [V.ref u6])))
    have g2 := (g2.same s5).but hh5 f2.1 f2.2.1 f2.2.2 (upd_but (x := .lst ((bv bs).reverse ++ [V.ref u6])))
    generalize upd H5 hd (.lst ((bv bs).reverse ++ [V.ref u6])) = H6 at s6 g1 g2 ⊢
    refine ⟨.ref p, rfl, .ref a, rfl, p, a, l, bs, rfl, g1, s6 _ _ ha, hs, fun H7 s67 => ⟨true, rfl, iteF ⟨.ref p2, rfl, .ref a, rfl, p2, a, l2, bs, rfl, g2.same s67, s67 _ _ (s6 _ _ ha), hs, fun H8 s78 => ⟨true, rfl, iteF ?_⟩⟩⟩⟩
    have s68 := s67.trans s78
    have s8 := s6.trans s68
    have hb8 := hb.kp (Kp.of s8)
    refine ⟨.ref p, rfl, .ref p2, rfl, _, _, true, rfl, .inl ⟨p, p2, l, l2, bs, bs, rfl, rfl, g1.same s68, g2.same s68, sh_eq (bsD_sh hb8)⟩, true, rfl, iteT ⟨.ref p, rfl, .ref a, rfl, a, _, rfl, .inl (SqL.of (s8 _ _ ha)), fun l9 nl9 => ?_⟩⟩
    have s9 := same_new nl9 (o := .lst (bv bs))
    exact ⟨_, _, false, rfl, .inr ⟨p, l9, l, bs, _, rfl, rfl, (g1.same s68).same s9, upd_same, rfl⟩, q _ (s8.trans s9)⟩
/-! ### _law_near -/
def spNear : Sp := fun vs H Q _ => ∃ (a : Addr) (bs : List Bk) (at_ : Nat) (k : Int), vs = [.ref a, .int (at_ : Int), .int k] ∧ H a = some (.lst (bv bs)) ∧ BsT H bs ∧ Small bs ∧ at_ < bs.length ∧ (∀ b ∈ bs, 1 ≤ b.ps.length) ∧ (k = 0 ∨ k = 1 ∨ k = 2 ∨ k = 3 ∨ k = 4) ∧
  ∀ H' p bs', Same H H' → H p = none → H' p = some (.lst (bv bs')) → BsT H' bs' → Small bs' → dueN bs' = dueN bs → PyData.eqv (bsD bs') (bsD bs) = false → Q (.ref p) H'
abbrev pNr : List Str := ["_law_blocks", "_law_at", "_law_k"]
abbrev nNr : List Str := ["_law_blocks", "_law_at", "_law_k", "_law_block", "_law_fields", "_law_pieces", "_law_last"]
theorem scNear : FnScope nNr pNr (defScope sNear) := ⟨rfl, rfl, rfl, by decide +kernel, rfl, by decide +kernel, by decide +kernel⟩
theorem ok_near {f f_next : Addr} {fd fd_next : FuncData} (B : Blt mg) (F : Fun K "_law_near" "_law_near" sNear f fd)
    (F_next : Fun K "_law_next" "_law_next" sNext f_next fd_next) (b_next : Binds K fd_next ["_law_value"] []) (g_next : mg "_law_next" = some (.ref f_next)) : FnOk P w K mg base CX0 2 f fd pNr spNear := by
  have G_next : FnOk P w K mg base CX0 1 f_next fd_next ["_law_value"] spNext := ok_next F_next
  refine F.ok scNear (fun vs H Q E h => ?_) (fun cdv A0 outer s H vs Q E hr h => ?_)
  · obtain ⟨a, bs, at_, k, rfl, _⟩ := h; rfl
  · obtain ⟨a, bs, at_, k, rfl, ha, hb, hs, hat, hne, hk, q⟩ := h
    refine ⟨_, (pss_cons (ps_set (i := 3) scNear.nd rfl (.inl rfl) (pe_ix ix_list (pv 0) (pv 1) (fun _ _ => rfl)))
      (pss_cons (ps_par (i := 4) (j := 5) (by rfl) scNear.nd rfl rfl (by decide) rfl rfl (pa_cons (pe_callTy call_list_of (by rfl) B.list (by decide +kernel) (pa_cons (pe_slice sl_tupH (pv 3) po_none (po_some pe_int)) pa_nil)) (pa_cons (pe_callTy call_list_of (by rfl) B.list (by decide +kernel) (pa_cons (pe_ix ix_tup (pv 3) pe_int (fun _ _ => rfl)) pa_nil)) pa_nil)) (by rfl))
      (Evl.pss_cut (ps_if (pt_cmpR op_lt (pv 2) pe_int (nomark _))
      (pss_one (ps_asg (pe_call G_next hr (by rfl) g_next F_next.kp b_next .nil pass0 (pa_cons (pe_ix ix_tup (pv 3) (pv 2) (fun _ _ => rfl)) pa_nil)) (pg_sub (pv 4) (pv 2) set_list)))
      pss_nil)
      (Evl.pss_cut (ps_if (pt_cmpR op_eq (pv 2) pe_int (nomark _))
      (pss_one (ps_asg (pe_not (pe_ix ix_tup (pv 3) pe_int (fun _ _ => rfl))) (pg_sub (pv 4) pe_int set_list)))
      pss_nil)
      (Evl.pss_cut (ps_if (pt_cmpR op_eq (pv 2) pe_int (nomark _))
      (pss_cons (ps_set (i := 6) scNear.nd rfl (.inl rfl) (pe_bm0 PySem.F.plainAttrs_list PySem.F.slot_list_pop PySem.F.type_list_pop mt_pop (pv 5)))
       (pss_one (ps_expr (pe_bm PySem.F.plainAttrs_list PySem.F.slot_list_append PySem.F.type_list_append mt_append (pv 5) (pa_cons (pe_tup (pa_cons (pe_call G_next hr (by rfl) g_next F_next.kp b_next .nil pass0 (pa_cons (pe_ix ix_tup (pv 6) pe_int (fun _ _ => rfl)) pa_nil)) (pa_cons (pe_ix ix_tup (pv 6) pe_int (fun _ _ => rfl)) (pa_cons (pe_ix ix_tup (pv 6) pe_int (fun _ _ => rfl)) (pa_cons (pe_ix ix_tup (pv 6) pe_int (fun _ _ => rfl)) pa_nil))))) pa_nil)))))
      pss_nil)
      (pss_one (ps_ret (pe_op op_cat (pe_op op_cat (pe_slice sl_list (pv 0) po_none (po_some (pv 1))) (pe_lst (pa_cons (pe_op op_catA (pe_callTy call_tuple_of (by rfl) B.tuple (by decide +kernel) (pa_cons (pv 4) pa_nil)) (pe_tup (pa_cons (pe_callTy call_tuple_of (by rfl) B.tuple (by decide +kernel) (pa_cons (pv 5) pa_nil)) pa_nil))) pa_nil))) (pe_slice sl_list (pv 0) (po_some (pe_op op_add (pv 1) pe_int)) po_none))))))))), ?_⟩
    obtain ⟨b, en⟩ : ∃ b, bs[at_]? = some b := ⟨_, List.getElem?_eq_getElem hat⟩
    have hbm := List.mem_of_getElem? en
    obtain ⟨k1, k2, k3, k4⟩ := hb b hbm
    have hn1 := hne b hbm
    refine ⟨.ref a, rfl, .int (at_ : Int), rfl, a, bv bs, (at_ : Int), .ref b.t, rfl, rfl, SqL.of ha, atI_nat (bv_at en), ?_⟩
    refine ⟨.ref b.t, rfl, _, rfl, b.t, _, rfl, k1, fun H1 c1 s1 hc1 => ?_⟩
    rw [show cutV [V.int b.a, .int b.b, .int b.c, .bl b.f, .ref b.pt] none (some 4) = [V.int b.a, .int b.b, .int b.c, .bl b.f] from cutV_to _ (m := 4) (by show 4 ≤ 5; decide)] at hc1
    refine ⟨c1, _, rfl, .inr (SqT.of hc1), fun F0 nF => ?_⟩
    have s2 := same_new nF (o := .lst [.int b.a, .int b.b, .int b.c, .bl b.f])
    have hF : (upd H1 F0 (.lst [.int b.a, .int b.b, .int b.c, .bl b.f])) F0 = some (.lst [.int b.a, .int b.b, .int b.c, .bl b.f]) := upd_same
    have nF := s1.free nF
    generalize upd H1 F0 (.lst [.int b.a, .int b.b, .int b.c, .bl b.f]) = H2 at s2 hF ⊢
    have s02 := s1.trans s2
    refine ⟨.ref b.t, rfl, b.t, _, 4, .ref b.pt, rfl, rfl, SqT.of (s02 _ _ k1), rfl, b.pt, _, rfl, .inr (SqT.of (s02 _ _ k2)), fun L nL => ?_⟩
    have s3' := same_new nL (o := .lst (pv' b.ps))
    have hL : (upd H2 L (.lst (pv' b.ps))) L = some (.lst (pv' b.ps)) := upd_same
    have nLF : L ≠ F0 := fun e => by rw [e, hF] at nL; cases nL
    have hF := s3' _ _ hF
    have nL := s02.free nL
    have s3 := s02.trans s3'
    generalize upd H2 L (.lst (pv' b.ps)) = H3 at s3 hL hF ⊢
    clear s3' s02 s2 s1 hc1
    refine ⟨_, _, rfl, ?_⟩
    refine ⟨fun σ' H' => ∃ (a' b' c' : Int), σ' = [some (.ref a), some (.int (at_ : Int)), some (.int k), some (.ref b.t), some (.ref F0), some (.ref L), none] ∧ Same H H' ∧ H' F0 = some (.lst [.int a', .int b', .int c', .bl b.f]) ∧ H' L = some (.lst (pv' b.ps)) ∧ (k < 3 → a' ≠ b.a ∨ b' ≠ b.b ∨ c' ≠ b.c), ?_, ?_⟩
    · rcases hk with rfl | rfl | rfl | rfl | rfl
      · refine ⟨.int 0, rfl, _, _, rfl, rfl, _, rfl, ite2 (fun _ => ?_) (fun z => absurd rfl z)⟩
        refine ⟨.ref b.t, rfl, .int 0, rfl, b.t, _, 0, .int b.a, rfl, rfl, SqT.of (s3 _ _ k1), rfl, b.a, rfl, fun j hj => ?_⟩
        refine ⟨.ref F0, rfl, .int 0, rfl, F0, _, 0, 0, rfl, rfl, hF, rfl, j, b.b, b.c, rfl, same_at s3 nF, upd_same, upd_but _ _ nLF hL, fun _ => .inl hj⟩
      · refine ⟨.int 1, rfl, _, _, rfl, rfl, _, rfl, ite2 (fun _ => ?_) (fun z => absurd rfl z)⟩
        refine ⟨.ref b.t, rfl, .int 1, rfl, b.t, _, 1, .int b.b, rfl, rfl, SqT.of (s3 _ _ k1), rfl, b.b, rfl, fun j hj => ?_⟩
        refine ⟨.ref F0, rfl, .int 1, rfl, F0, _, 1, 1, rfl, rfl, hF, rfl, b.a, j, b.c, rfl, same_at s3 nF, upd_same, upd_but _ _ nLF hL, fun _ => .inr (.inl hj)⟩
      · refine ⟨.int 2, rfl, _, _, rfl, rfl, _, rfl, ite2 (fun _ => ?_) (fun z => absurd rfl z)⟩
        refine ⟨.ref b.t, rfl, .int 2, rfl, b.t, _, 2, .int b.c, rfl, rfl, SqT.of (s3 _ _ k1), rfl, b.c, rfl, fun j hj => ?_⟩
        refine ⟨.ref F0, rfl, .int 2, rfl, F0, _, 2, 2, rfl, rfl, hF, rfl, b.a, b.b, j, rfl, same_at s3 nF, upd_same, upd_but _ _ nLF hL, fun _ => .inr (.inr hj)⟩
      · exact ⟨.int 3, rfl, _, _, rfl, rfl, _, rfl, ite2 (fun z => absurd z (by decide)) (fun _ => ⟨b.a, b.b, b.c, rfl, s3, hF, hL, fun z => absurd z (by decide)⟩)⟩
      · exact ⟨.int 4, rfl, _, _, rfl, rfl, _, rfl, ite2 (fun z => absurd z (by decide)) (fun _ => ⟨b.a, b.b, b.c, rfl, s3, hF, hL, fun z => absurd z (by decide)⟩)⟩
    rintro σ' H4 ⟨a', b', c', rfl, s4, hF, hL, w1⟩
    refine ⟨fun σ' H' => ∃ (f' : Bool), σ' = [some (.ref a), some (.int (at_ : Int)), some (.int k), some (.ref b.t), some (.ref F0), some (.ref L), none] ∧ Same H H' ∧ H' F0 = some (.lst [.int a', .int b', .int c', .bl f']) ∧ H' L = some (.lst (pv' b.ps)) ∧ (k = 3 → f' ≠ b.f), ?_, ?_⟩
    · by_cases h3 : k = 3
      · subst h3
        refine ⟨.int 3, rfl, rfl, _, rfl, ite2 (fun _ => ?_) (fun z => absurd (decide_eq_true rfl) z)⟩
        refine ⟨.ref b.t, rfl, b.t, _, 3, .bl b.f, rfl, rfl, SqT.of (s4 _ _ k1), rfl, b.f, rfl, ?_⟩
        refine ⟨.ref F0, rfl, F0, _, 3, 3, rfl, rfl, hF, rfl, !b.f, rfl, same_at s4 nF, upd_same, upd_but _ _ nLF hL, fun _ => by cases b.f <;> decide⟩
      · refine ⟨.int k, rfl, rfl, _, rfl, ite2 (fun z => absurd (V.int.inj (of_decide_eq_true z)) h3) (fun _ => ⟨b.f, rfl, s4, hF, hL, fun z => absurd z h3⟩)⟩
    rintro σ' H5 ⟨f', rfl, s5, hF, hL, w2⟩
    refine ⟨fun σ' H' => ∃ (y6 : Option V) (ps' : List Pc), σ' = [some (.ref a), some (.int (at_ : Int)), some (.int k), some (.ref b.t), some (.ref F0), some (.ref L), y6] ∧ Same H H' ∧ H' F0 = some (.lst [.int a', .int b', .int c', .bl f']) ∧ H' L = some (.lst (pv' ps')) ∧ (∀ p ∈ ps', PcT H' p) ∧ ps'.length = b.ps.length ∧ (figs ps').length = (figs b.ps).length ∧ (k = 4 → PyData.eqvAll (ps'.map pcD) (b.ps.map pcD) = false), ?_, ?_⟩
    · by_cases h4 : k = 4
      · subst h4
        obtain ⟨ini, pc, epc⟩ : ∃ ini pc, b.ps = ini ++ [pc] := ⟨b.ps.dropLast, b.ps.getLast (fun z => by rw [z] at hn1; exact absurd hn1 (by decide)), (List.dropLast_concat_getLast _).symm⟩
        have hpm : pc ∈ b.ps := by rw [epc]; exact List.mem_append_right _ (List.mem_singleton.mpr rfl)
        obtain ⟨c1, c2, c3, c4, c5, c6, c7⟩ := (k4 pc hpm).kp (Kp.of s5)
        have hil : ini.length + 1 = b.ps.length := by rw [epc, List.length_append]; rfl
        rw [epc, ← pv_snoc] at hL
        refine ⟨.int 4, rfl, rfl, _, rfl, ite2 (fun _ => ?_) (fun z => absurd (decide_eq_true rfl) z)⟩
        refine ⟨.ref L, rfl, .inl ⟨rfl, _, SqL.of hL⟩, L, _, .ref pc.t, rfl, rfl, hL, (by rw [List.length_append, List.getElem?_append_right (by show _ ≤ (pv' ini).length + 1 - 1; omega)]; show [V.ref pc.t][(pv' ini).length + 1 - 1 - (pv' ini).length]? = _; rw [show (pv' ini).length + 1 - 1 - (pv' ini).length = 0 from by omega]; rfl), ?_⟩
        rw [List.dropLast_concat]
        have s6 := same_at (x := .lst (pv' ini)) s5 nL
        have hF6 := upd_but (x := .lst (pv' ini)) _ _ (Ne.symm nLF) hF
        have hL6 : (upd H5 L (.lst (pv' ini))) L = some (.lst (pv' ini)) := upd_same
        have kp6 : Kp H5 (upd H5 L (.lst (pv' ini))) := Kp.but hL (fun z => z) upd_but
        generalize upd H5 L (.lst (pv' ini)) = H6 at s6 hF6 hL6 kp6 ⊢
        have d1 := kp6.tup c1
        refine ⟨.ref L, rfl, .inl ⟨rfl, _, SqL.of hL6⟩, .ref pc.t, rfl, pc.t, _, 0, .int pc.h, rfl, rfl, SqT.of d1, rfl, _, rfl, fun j hj => ⟨.ref pc.t, rfl, pc.t, _, 1, .ref pc.ti, rfl, rfl, SqT.of d1, rfl, .ref pc.t, rfl, pc.t, _, 2, .ref pc.no, rfl, rfl, SqT.of d1, rfl, .ref pc.t, rfl, pc.t, _, 3, .ref pc.ca, rfl, rfl, SqT.of d1, rfl, by show 4 ≤ sizeLine; decide, fun t nt => ?_⟩⟩
        have s7' := same_new nt (o := .tup [.int j, .ref pc.ti, .ref pc.no, .ref pc.ca])
        have ht : (upd H6 t (.tup [.int j, .ref pc.ti, .ref pc.no, .ref pc.ca])) t = some (.tup [.int j, .ref pc.ti, .ref pc.no, .ref pc.ca]) := upd_same
        have s7 := s6.trans s7'
        have hF7 := s7' _ _ hF6
        have hL7 := s7' _ _ hL6
        have kp7 := kp6.trans (Kp.of s7')
        refine ⟨L, _, .ref t, rfl, rfl, hL7, (by rw [pv_len]; exact small1000 (by omega)), ?_⟩
        have kp8 : Kp (upd H6 t (.tup [.int j, .ref pc.ti, .ref pc.no, .ref pc.ca])) (upd (upd H6 t (.tup [.int j, .ref pc.ti, .ref pc.no, .ref pc.ca])) L (.lst (pv' ini ++ [.ref t]))) := Kp.but hL7 (fun z => z) upd_but
        have kp58 := kp7.trans kp8
        refine ⟨some (.ref pc.t), ini ++ [⟨t, j, pc.ti, pc.tw, pc.tn, pc.no, pc.notes, pc.ca, pc.calls⟩], rfl, same_at s7 nL, upd_but _ _ (Ne.symm nLF) hF7, by rw [← pv_snoc]; exact upd_same, fun x hx => ?_, by rw [epc, List.length_append, List.length_append]; rfl, by rw [epc]; unfold figs; rw [List.flatMap_append, List.flatMap_append, List.length_append, List.length_append]; rfl, fun _ => ?_⟩
        · rcases List.mem_append.mp hx with hx | hx
          · exact ((k4 x (by rw [epc]; exact List.mem_append_left _ hx)).kp (Kp.of s5)).kp kp58
          · rw [List.mem_singleton.mp hx]
            exact ⟨kp8.tup ht, kp58.tup c2, c3, kp58.tup c4, c5, kp58.tup c6, c7⟩
        · rw [epc]
          exact eqv_last (p := pc) (p' := ⟨t, j, pc.ti, pc.tw, pc.tn, pc.no, pc.notes, pc.ca, pc.calls⟩) hj ini
      · refine ⟨.int k, rfl, rfl, _, rfl, ite2 (fun z => absurd (V.int.inj (of_decide_eq_true z)) h4) (fun _ => ⟨none, b.ps, rfl, s5, hF, hL, fun p hp => (k4 p hp).kp (Kp.of s5), rfl, rfl, fun z => absurd z h4⟩)⟩
    rintro σ' H6 ⟨y6, ps', rfl, s6, hF, hL, hps, hpl, hfl, w3⟩
    have hbl : (bv bs).length = bs.length := bv_len bs
    have eat : bs = bs.take at_ ++ b :: bs.drop (at_ + 1) := by
      have h1 := List.getElem?_eq_some_iff.mp en
      obtain ⟨h1, h2⟩ := h1
      rw [← h2, List.getElem_cons_drop, List.take_append_drop]
    have n3 : 3 ≤ sizeLine := by decide
    refine ⟨.ref a, rfl, .int (at_ : Int), rfl, _, rfl, a, _, rfl, SqL.of (s6 _ _ ha), fun r1 n1 => ?_⟩
    rw [cutV_to _ (m := at_) (by omega)]
    have t1' := same_new n1 (o := .lst ((bv bs).take at_))
    have hr1' : (upd H6 r1 (.lst ((bv bs).take at_))) r1 = some (.lst ((bv bs).take at_)) := upd_same
    have hF7 := t1' _ _ hF
    have hL7 := t1' _ _ hL
    have s7 := s6.trans t1'
    have hps7 : ∀ p ∈ ps', PcT (upd H6 r1 (.lst ((bv bs).take at_))) p := fun p hp => (hps p hp).kp (Kp.of t1')
    show ∃ v, _
    generalize upd H6 r1 (.lst ((bv bs).take at_)) = H7 at s7 hr1' hF7 hL7 hps7 ⊢
    refine ⟨.ref F0, rfl, F0, _, rfl, .inl ⟨SqL.of hF7, fun t1 m1 => ?_⟩⟩
    have t2' := same_new m1 (o := .tup [.int a', .int b', .int c', .bl f'])
    have ht1 : (upd H7 t1 (.tup [.int a', .int b', .int c', .bl f'])) t1 = some (.tup [.int a', .int b', .int c', .bl f']) := upd_same
    generalize upd H7 t1 (.tup [.int a', .int b', .int c', .bl f']) = H8 at t2' ht1 ⊢
    refine ⟨.ref L, rfl, L, _, rfl, .inl ⟨SqL.of (t2' _ _ hL7), fun t2 m2 => ?_⟩⟩
    have t3' := same_new m2 (o := .tup (pv' ps'))
    have ht2 : (upd H8 t2 (.tup (pv' ps'))) t2 = some (.tup (pv' ps')) := upd_same
    have ht1 := t3' _ _ ht1
    generalize upd H8 t2 (.tup (pv' ps')) = H9 at t3' ht2 ht1 ⊢
    refine ⟨by show 1 ≤ sizeLine; decide, fun t3 m3 => ?_⟩
    have t4' := same_new m3 (o := .tup [.ref t2])
    have ht3 : (upd H9 t3 (.tup [.ref t2])) t3 = some (.tup [.ref t2]) := upd_same
    have ht1 := t4' _ _ ht1
    have ht2 := t4' _ _ ht2
    generalize upd H9 t3 (.tup [.ref t2]) = H10 at t4' ht3 ht2 ht1 ⊢
    refine ⟨t1, t3, _, _, rfl, rfl, SqT.of ht1, SqT.of ht3, (by show 5 ≤ sizeLine; decide), (fun z => nomatch z), (fun _ z => nomatch z), fun _ _ t m4 => ?_⟩
    have t5' := same_new m4 (o := .tup ([.int a', .int b', .int c', .bl f'] ++ [.ref t2]))
    have ht : (upd H10 t (.tup ([.int a', .int b', .int c', .bl f'] ++ [.ref t2]))) t = some (.tup [.int a', .int b', .int c', .bl f', .ref t2]) := upd_same
    have ht2 := t5' _ _ ht2
    have s711 := t2'.trans (t3'.trans (t4'.trans t5'))
    generalize upd H10 t (.tup ([.int a', .int b', .int c', .bl f'] ++ [.ref t2])) = H11 at s711 ht ht2 ⊢
    refine ⟨by show 1 ≤ sizeLine; decide, fun l2 m5 => ?_⟩
    have t6' := same_new m5 (o := .lst [.ref t])
    have hl2 : (upd H11 l2 (.lst [.ref t])) l2 = some (.lst [.ref t]) := upd_same
    have s712 := s711.trans t6'
    have ht := t6' _ _ ht
    have ht2 := t6' _ _ ht2
    generalize upd H11 l2 (.lst [.ref t]) = H12 at s712 hl2 ht ht2 ⊢
    refine ⟨r1, l2, _, _, rfl, rfl, s712 _ _ hr1', hl2, (by rw [List.length_take, sizeLine_eq]; show _ + 1 ≤ _; have := hs.1; omega), fun r3 m6 => ?_⟩
    have t7' := same_new m6 (o := .lst ((bv bs).take at_ ++ [.ref t]))
    have hr3 : (upd H12 r3 (.lst ((bv bs).take at_ ++ [.ref t]))) r3 = some (.lst ((bv bs).take at_ ++ [.ref t])) := upd_same
    have s713 := s712.trans t7'
    have ht := t7' _ _ ht
    have ht2 := t7' _ _ ht2
    generalize upd H12 r3 (.lst ((bv bs).take at_ ++ [.ref t])) = H13 at s713 hr3 ht ht2 ⊢
    refine ⟨.ref a, rfl, .int (at_ : Int), rfl, _, _, rfl, rfl, ((at_ + 1 : Nat) : Int), rfl, a, _, rfl, SqL.of (s713 _ _ (s7 _ _ ha)), fun r4 m7 => ?_⟩
    rw [cutV_from _ (m := at_ + 1) (by omega)]
    have t8' := same_new m7 (o := .lst ((bv bs).drop (at_ + 1)))
    have hr4 : (upd H13 r4 (.lst ((bv bs).drop (at_ + 1)))) r4 = some (.lst ((bv bs).drop (at_ + 1))) := upd_same
    refine ⟨r3, r4, _, _, rfl, rfl, t8' _ _ hr3, hr4, (by rw [List.length_append, List.length_take, List.length_drop, sizeLine_eq]; show _ + 1 + _ ≤ _; have := hs.1; omega), fun r5 m8 => ?_⟩
    have t9' := same_new m8 (o := .lst ((bv bs).take at_ ++ [.ref t] ++ (bv bs).drop (at_ + 1)))
    have s714 := s713.trans (t8'.trans t9')
    have s14 := s7.trans s714
    have hb14 := hb.kp (Kp.of s14)
    have ebv : (bv bs).take at_ ++ [V.ref t] ++ (bv bs).drop (at_ + 1) = bv (bs.take at_ ++ ⟨t, a', b', c', f', t2, ps'⟩ :: bs.drop (at_ + 1)) := by
      unfold bv
      rw [List.map_append, List.map_cons, List.map_take, List.map_drop, List.append_assoc]; rfl
    have hlen := swap_len (b := b) (b' := ⟨t, a', b', c', f', t2, ps'⟩) hpl hfl (bs.take at_) (bs.drop (at_ + 1))
    rw [← eat] at hlen
    refine q _ r5 (bs.take at_ ++ ⟨t, a', b', c', f', t2, ps'⟩ :: bs.drop (at_ + 1)) s14 (s7.free (s713.free (t8'.free m8))) (by rw [upd_same, ebv]) ?_ ⟨?_, by rw [hlen.1]; exact hs.2⟩ (due_of hlen) ?_
    · intro x hx
      rcases List.mem_append.mp hx with hx | hx
      · exact hb14 x (List.mem_of_mem_take hx)
      · rcases List.mem_cons.mp hx with rfl | hx
        · have s1314 := t8'.trans t9'
          exact ⟨s1314 _ _ ht, s1314 _ _ ht2, by show ps'.length ≤ 50; omega, fun p hp => (hps7 p hp).kp (Kp.of s714)⟩
        · exact hb14 x (List.mem_of_mem_drop hx)
    · have := hs.1
      rw [List.length_append, List.length_take, List.length_cons, List.length_drop]; omega
    · have hd : PyData.eqv (bkD ⟨t, a', b', c', f', t2, ps'⟩) (bkD b) = false := bk_ne (by
        rcases hk with rfl | rfl | rfl | rfl | rfl
        · have := w1 (by decide)
          rcases this with h | h | h
          · exact .inl h
          · exact .inr (.inl h)
          · exact .inr (.inr (.inl h))
        · have := w1 (by decide)
          rcases this with h | h | h
          · exact .inl h
          · exact .inr (.inl h)
          · exact .inr (.inr (.inl h))
        · have := w1 (by decide)
          rcases this with h | h | h
          · exact .inl h
          · exact .inr (.inl h)
          · exact .inr (.inr (.inl h))
        · exact .inr (.inr (.inr (.inl (w2 rfl))))
        · exact .inr (.inr (.inr (.inr (w3 rfl)))))
      have h2 := eqv_swap hd (bs.drop (at_ + 1)) (bs.take at_)
      rw [← eat] at h2
      exact h2
end
end K34

set_option maxRecDepth 100000
set_option maxHeartbeats 8000000
namespace K34
open PySem PySem.Spec PyProof.Rows L2
theorem eqvAll_len : ∀ xs ys : List PyData, PyData.eqvAll xs ys = true → xs.length = ys.length
  | [], [], _ => rfl
  | x :: xs, y :: ys, h => by
    have h : (PyData.eqv x y && PyData.eqvAll xs ys) = true := h
    rw [Bool.and_eq_true] at h
    rw [List.length_cons, List.length_cons, eqvAll_len xs ys h.2]
  | [], _ :: _, h => by cases h
  | _ :: _, [], h => by cases h
theorem joined_eq {H : Hp} {os : List Bk} (h : BsT H os) : ∀ ts : List Bk, PyData.eqv (bsD (os ++ ts)) (bsD os) = decide (V.int ((ts.length : Nat) : Int) = V.int 0)
  | [] => by
    rw [List.append_nil]
    exact (sh_eq (bsD_sh h)).trans (decide_eq_true rfl).symm
  | t :: ts => by
    have h1 : decide (V.int (((t :: ts).length : Nat) : Int) = V.int 0) = false := decide_eq_false fun z => by
      have := V.int.inj z
      rw [List.length_cons] at this; omega
    rw [h1]
    refine Bool.eq_false_iff.mpr fun z => ?_
    have := eqvAll_len _ _ (show PyData.eqvAll ((os ++ t :: ts).map bkD) (os.map bkD) = true from z)
    rw [List.length_map, List.length_map, List.length_append, List.length_cons] at this
    omega
theorem same_butp {H H1 H2 : Hp} {p : Addr} (s : Same H H1) (n : H p = none) (k : ∀ b o, b ≠ p → H1 b = some o → H2 b = some o) : Same H H2 := fun b o e => k b o (ne_of_none e n) (s b o e)
theorem bst_nil (H : Hp) : BsT H [] := fun b hb => nomatch hb
section
variable {P : Program} {w : World} {K : PySem.W.Frag} {mg : Str → Option Value} {base : Heap} {t1 t2 : Tok} {C CT CN CL fa fj fe fb d0 : Addr} {da dj de db : FuncData}
/-! ### _law_joins -/
def spJoins : Sp := fun vs H Q _ => ∃ (a b : Addr) (os ts : List Bk), vs = [.ref a, .ref b] ∧ H a = some (.lst (bv os)) ∧ H b = some (.lst (bv ts)) ∧ BsT H os ∧ BsT H ts ∧ os.length ≤ 45 ∧ (pcs os).length ≤ 45 ∧ ts.length ≤ 45 ∧ (pcs ts).length ≤ 45 ∧ dueN os = 0 ∧ dueN ts = 0 ∧ ∀ H', Q (.bl true) H'
abbrev pJo : List Str := ["_law_one", "_law_two"]
abbrev nJo : List Str := ["_law_one", "_law_two", "_law_first", "_law_second", "_law_held", "_law_due_here", "_law_both", "_law_bare", "_law_extra", "_law_twice", "_law_block"]
theorem scJoins : FnScope nJo pJo (defScope sJoins) := ⟨rfl, rfl, rfl, by decide +kernel, rfl, by decide +kernel, by decide +kernel⟩
theorem pcs_app (a b : List Bk) : pcs (a ++ b) = pcs a ++ pcs b := by unfold pcs; rw [List.flatMap_append]
theorem small2 {a b : List Bk} (h1 : a.length ≤ 45) (h2 : (pcs a).length ≤ 45) (h3 : b.length ≤ 45) (h4 : (pcs b).length ≤ 45) : Small (a ++ b) := ⟨by rw [List.length_append]; omega, by rw [pcs_app, List.length_append]; omega⟩
theorem ok_joins {f_init f f_shows f_equal f_due f_added f_sum_refused f_number : Addr} {fd_init fd fd_shows fd_equal fd_due fd_added fd_sum_refused fd_number : FuncData} (B : Blt mg) (T : Gly K mg C) (M : Mk K C f_init) (O : Ops P w K mg base C CT CN fa fj fe fb da dj de db) (R : Ers K mg CT CN CL) (D0 : ∀ H, SqT K H d0 []) (b_init0 : Binds K fd_init pIn [.ref d0]) (F : Fun K "_law_joins" "_law_joins" sJoins f fd)
    (G_init : FnOk P w K mg base (L2N.CX P w) 4 f_init fd_init pIn (spInit K C CT)) (b_init : Binds K fd_init pIn [])
    (F_shows : Fun K "_law_shows" "_law_shows" sShows f_shows fd_shows) (b_shows : Binds K fd_shows pSh []) (g_shows : mg "_law_shows" = some (.ref f_shows)) (G_shows : FnOk P w K mg base CX0 7 f_shows fd_shows pSh (spShows C))
    (F_equal : Fun K "_law_equal" "_law_equal" sEqual f_equal fd_equal) (b_equal : Binds K fd_equal pEl []) (g_equal : mg "_law_equal" = some (.ref f_equal))
    (F_due : Fun K "_law_due" "_law_due" sDue f_due fd_due) (b_due : Binds K fd_due ["_law_blocks"] []) (g_due : mg "_law_due" = some (.ref f_due))
    (F_added : Fun K "_law_added" "_law_added" sAdded f_added fd_added) (b_added : Binds K fd_added p3 []) (g_added : mg "_law_added" = some (.ref f_added))
    (F_sum_refused : Fun K "_law_sum_refused" "_law_sum_refused" sSumRef f_sum_refused fd_sum_refused) (b_sum_refused : Binds K fd_sum_refused p3 []) (g_sum_refused : mg "_law_sum_refused" = some (.ref f_sum_refused))
    (F_number : Fun K "_law_number" "_law_number" sNumber f_number fd_number) (b_number : Binds K fd_number ["_law_value"] []) (g_number : mg "_law_number" = some (.ref f_number)) : FnOk P w K mg base CX0 8 f fd pJo spJoins := by
  have G_equal : FnOk P w K mg base CX0 2 f_equal fd_equal pEl (spEqual C) := ok_equal B O F_equal
  have G_due : FnOk P w K mg base CX0 1 f_due fd_due ["_law_blocks"] spDue := ok_due B F_due
  have G_added : FnOk P w K mg base CX0 7 f_added fd_added p3 (spAdd' C) := ok_added B O R F_added F_number b_number g_number
  have G_sum_refused : FnOk P w K mg base CX0 7 f_sum_refused fd_sum_refused p3 (spSr C) := ok_sum_refused B O R F_sum_refused F_number b_number g_number
  refine F.ok scJoins (fun vs H Q E h => ?_) (fun cdv A0 outer s H vs Q E hr h => ?_)
  · obtain ⟨a, b, os, ts, rfl, _⟩ := h; rfl
  · obtain ⟨a, b, os, ts, rfl, ha, hb, hb_os, hb_ts, lo1, lo2, lt1, lt2, du_os, du_ts, q⟩ := h
    have hr7 : Room 7 _ := hr
    have hr6 : Room 6 _ := hr.mono (by decide)
    have hr5 : Room 5 _ := hr.mono (by decide)
    have hr2 : Room 2 _ := hr.mono (by decide)
    have hr1 : Room 1 _ := hr.mono (by decide)
    have sm_os : Small os := ⟨by omega, by omega⟩
    have sm_ts : Small ts := ⟨by omega, by omega⟩
    have sm_ot : Small (os ++ ts) := small2 lo1 lo2 lt1 lt2
    have sm_nil : Small [] := ⟨by show 0 ≤ 200; decide, by show 0 ≤ 200; decide⟩
    have du_nil : dueN [] = 0 := rfl
    have sm_no : Small ([] ++ os) := sm_os
    have du_no : dueN ([] ++ os) = 0 := du_os
    have sm_oo : Small (os ++ os) := small2 lo1 lo2 lo1 lo2
    refine ⟨_, (pss_cons (ps_par3 (i := 2) (j := 3) (l := 4) (by rfl) scJoins.nd rfl rfl rfl (by decide) (by decide) (by decide) rfl rfl rfl (pa_cons (pe_make M G_init hr5 (by rfl) T.mgC b_init .nil passNN (pa_cons (pe_callTy call_list_of (by rfl) B.list (by decide +kernel) (pa_cons (pv 0) pa_nil)) pa_nil)) (pa_cons (pe_make M G_init hr5 (by rfl) T.mgC b_init .nil passNN (pa_cons (pe_callTy call_list_of (by rfl) B.list (by decide +kernel) (pa_cons (pv 1) pa_nil)) pa_nil)) (pa_cons (pe_make M G_init hr5 (by rfl) T.mgC b_init .nil passNN (pa_cons (pe_callTy call_list_of (by rfl) B.list (by decide +kernel) (pa_cons (pv 0) pa_nil)) pa_nil)) pa_nil))) (by rfl))
      (pss_cons (ps_set (i := 5) scJoins.nd rfl (.inl rfl) (pe_call G_due hr1 (by rfl) g_due F_due.kp b_due .nil pass0 (pa_cons (pe_op op_cat (pv 0) (pv 1)) pa_nil)))
      (pss_cons (ps_if (pt_cmpR op_gt (pv 5) pe_int (nomark _))
      (pss_cons (ps_if (PW.pt (pw_or (pt_not (pt_val (pe_call G_sum_refused hr7 (by rfl) g_sum_refused F_sum_refused.kp b_sum_refused .nil pass0 (pa_cons (pv 2) (pa_cons (pv 3) (pa_cons (pv 5) pa_nil)))))) (pw_or1 (pt_not (pt_val (pe_call G_added hr7 (by rfl) g_added F_added.kp b_added .nil pass0 (pa_cons (pv 4) (pa_cons (pv 3) (pa_cons (pv 5) pa_nil)))))))))
       (pss_one (ps_ret pe_bl))
       pss_nil)
       (pss_one (ps_ret (pe_and (pe_call G_shows hr7 (by rfl) g_shows F_shows.kp b_shows .nil pass0 (pa_cons (pv 2) (pa_cons (pv 0) pa_nil))) (pe_and (pe_call G_shows hr7 (by rfl) g_shows F_shows.kp b_shows .nil pass0 (pa_cons (pv 3) (pa_cons (pv 1) pa_nil))) (pe_one (pe_call G_shows hr7 (by rfl) g_shows F_shows.kp b_shows .nil pass0 (pa_cons (pv 4) (pa_cons (pv 0) pa_nil)))))))))
      pss_nil)
      (pss_cons (ps_set (i := 6) scJoins.nd rfl (.inl rfl) (pe_op (RB.op_binO (op := .Add) O.adG O.ad O.adB hr6 passNN) (pv 2) (pv 3)))
      (pss_cons (ps_if (PW.pt (pw_or (pt_not (pt_val (pe_call G_shows hr7 (by rfl) g_shows F_shows.kp b_shows .nil pass0 (pa_cons (pv 6) (pa_cons (pe_op op_cat (pv 0) (pv 1)) pa_nil))))) (pw_or (pt_not (pt_val (pe_call G_shows hr7 (by rfl) g_shows F_shows.kp b_shows .nil pass0 (pa_cons (pv 2) (pa_cons (pv 0) pa_nil))))) (pw_or1 (pt_not (pt_val (pe_call G_shows hr7 (by rfl) g_shows F_shows.kp b_shows .nil pass0 (pa_cons (pv 3) (pa_cons (pv 1) pa_nil)))))))))
      (pss_one (ps_ret pe_bl))
      pss_nil)
      (pss_cons (ps_if (PW.pt (pw_or (pt_not (pt_val (pe_call G_added hr7 (by rfl) g_added F_added.kp b_added .nil pass0 (pa_cons (pv 4) (pa_cons (pv 3) (pa_cons pe_int pa_nil)))))) (pw_or (pt_not (pt_val (pe_call G_shows hr7 (by rfl) g_shows F_shows.kp b_shows .nil pass0 (pa_cons (pv 4) (pa_cons (pe_op op_cat (pv 0) (pv 1)) pa_nil))))) (pw_or1 (pt_not (pt_val (pe_call G_shows hr7 (by rfl) g_shows F_shows.kp b_shows .nil pass0 (pa_cons (pv 3) (pa_cons (pv 1) pa_nil)))))))))
      (pss_one (ps_ret pe_bl))
      pss_nil)
      (pss_cons (ps_if (PW.pt (pw_or (pt_not (pt_val (pe_call G_equal hr2 (by rfl) g_equal F_equal.kp b_equal .nil pass0 (pa_cons (pv 4) (pa_cons (pv 6) (pa_cons pe_bl pa_nil)))))) (pw_or1 (pt_not (pt_val (pe_call G_equal hr2 (by rfl) g_equal F_equal.kp b_equal .nil pass0 (pa_cons (pv 4) (pa_cons (pv 2) (pa_cons (pe_cmpR op_eq (pe_callB call_len (by rfl) B.len PySem.boot_len (pa_cons (pv 1) pa_nil)) pe_int (nomark _)) pa_nil)))))))))
      (pss_one (ps_ret pe_bl))
      pss_nil)
      (pss_cons (ps_set (i := 7) scJoins.nd rfl (.inl rfl) (pe_make0 M G_init hr5 (by rfl) T.mgC b_init0 (show Vals [V.ref d0] [Value.ref d0] from .cons rfl .nil) passNN))
      (pss_cons (ps_if (PW.pt (pw_or (pt_not (pt_val (pe_call G_added hr7 (by rfl) g_added F_added.kp b_added .nil pass0 (pa_cons (pv 7) (pa_cons (pe_make M G_init hr5 (by rfl) T.mgC b_init .nil passNN (pa_cons (pe_callTy call_list_of (by rfl) B.list (by decide +kernel) (pa_cons (pv 0) pa_nil)) pa_nil)) (pa_cons pe_int pa_nil)))))) (pw_or (pt_not (pt_val (pe_call G_shows hr7 (by rfl) g_shows F_shows.kp b_shows .nil pass0 (pa_cons (pv 7) (pa_cons (pv 0) pa_nil))))) (pw_or1 (pt_not (pt_val (pe_call G_shows hr7 (by rfl) g_shows F_shows.kp b_shows .nil pass0 (pa_cons (pe_make0 M G_init hr5 (by rfl) T.mgC b_init0 (show Vals [V.ref d0] [Value.ref d0] from .cons rfl .nil) passNN) (pa_cons (pe_lst pa_nil) pa_nil)))))))))
      (pss_one (ps_ret pe_bl))
      pss_nil)
      (pss_cons (ps_set (i := 8) scJoins.nd rfl (.inl rfl) (pe_lst (pa_cons (pe_tup (pa_cons pe_int (pa_cons pe_int (pa_cons pe_int (pa_cons pe_bl (pa_cons (pe_tup (pa_cons (pe_tup (pa_cons pe_int (pa_cons (pe_tup (pa_cons pe_str pa_nil)) (pa_cons (pe_tup pa_nil) (pa_cons (pe_tup pa_nil) pa_nil))))) pa_nil)) pa_nil)))))) pa_nil)))
      (Evl.pss_cut (ps_if (pt_cmpR op_eq (pe_call G_due hr1 (by rfl) g_due F_due.kp b_due .nil pass0 (pa_cons (pe_op op_cat (pv 1) (pv 8)) pa_nil)) pe_int (nomark _))
      (pss_one (ps_if (PW.pt (pw_or (pt_not (pt_val (pe_call G_added hr7 (by rfl) g_added F_added.kp b_added .nil pass0 (pa_cons (pv 3) (pa_cons (pe_make M G_init hr5 (by rfl) T.mgC b_init .nil passNN (pa_cons (pe_callTy call_list_of (by rfl) B.list (by decide +kernel) (pa_cons (pv 8) pa_nil)) pa_nil)) (pa_cons pe_int pa_nil)))))) (pw_or1 (pt_not (pt_val (pe_call G_shows hr7 (by rfl) g_shows F_shows.kp b_shows .nil pass0 (pa_cons (pv 3) (pa_cons (pe_op op_cat (pv 1) (pv 8)) pa_nil))))))))
       (pss_one (ps_ret pe_bl))
       pss_nil))
      pss_nil)
      (pss_cons (ps_set (i := 9) scJoins.nd rfl (.inr rfl) (pe_call G_due hr1 (by rfl) g_due F_due.kp b_due .nil pass0 (pa_cons (pe_op op_cat (pv 0) (pv 0)) pa_nil)))
      (Evl.pss_cut (ps_if (pt_not (pt_val (pe_call G_added hr7 (by rfl) g_added F_added.kp b_added .nil pass0 (pa_cons (pv 2) (pa_cons (pv 2) (pa_cons (pv 9) pa_nil))))))
      (pss_one (ps_ret pe_bl))
      pss_nil)
      (pss_cons (ps_if (pt_not (pt_val (pe_call G_shows hr7 (by rfl) g_shows F_shows.kp b_shows .nil pass0 (pa_cons (pv 2) (pa_cons (pe_op op_cat (pv 0) (pe_lc (own := [("_law_block", 10)]) (g := gName 10) rfl scJoins.nd (pi_list (pv 0)) (blkOk_by (N := nJo) (sc := defScope sJoins) (by decide +kernel)) (fun _ _ _ _ _ => (pg_name (i := 10) scJoins.nd rfl (.inl rfl))) (fun _ _ _ _ _ => pts_one (pt_cmpR op_eq (pv 9) pe_int (nomark _))) (fun _ _ _ _ _ => (pv 10)))) pa_nil)))))
      (pss_one (ps_ret pe_bl))
      pss_nil)
      (pss_one (ps_ret (pe_and (pe_call G_shows hr7 (by rfl) g_shows F_shows.kp b_shows .nil pass0 (pa_cons (pv 6) (pa_cons (pe_op op_cat (pv 0) (pv 1)) pa_nil))) (pe_one (pe_call G_shows hr7 (by rfl) g_shows F_shows.kp b_shows .nil pass0 (pa_cons (pv 4) (pa_cons (pe_op op_cat (pv 0) (pv 1)) pa_nil))))))))))))))))))))), ?_⟩
    have s0 := Same.refl H
    refine ⟨.ref a, rfl, a, _, rfl, .inl (SqL.of (s0 _ _ ha)), fun z1 nz1 => ?_⟩
    have sz := same_new nz1 (o := .lst (bv os))
    have hz1 : (upd H z1 (.lst (bv os))) z1 = some (.lst (bv os)) := upd_same
    generalize upd H z1 (.lst (bv os)) = H1 at sz hz1 ⊢
    have s0 := s0.trans sz
    refine fun p1 dx npx ndx hne => ?_
    have sM : Same H1 (upd (upd H1 dx (.own p1)) p1 (.ins C dx [])) := made_up npx ndx
    have nf1 := s0.free npx
    refine ⟨p1, dx, z1, os, rfl, upd_same, (.inl (sM _ _ hz1)), (hb_os).kp (Kp.of (s0.trans sM)), sm_os, fun z => absurd z (by have := du_os; omega), fun _ H2 l1 hk hF g1 => ⟨rfl, ?_⟩⟩
    have sm := made_same npx ndx hk
    clear hk hF sM npx ndx
    have s0 := s0.trans sm
    refine ⟨.ref b, rfl, b, _, rfl, .inl (SqL.of (s0 _ _ hb)), fun z2 nz2 => ?_⟩
    have sz := same_new nz2 (o := .lst (bv ts))
    have hz2 : (upd H2 z2 (.lst (bv ts))) z2 = some (.lst (bv ts)) := upd_same
    generalize upd H2 z2 (.lst (bv ts)) = H3 at sz hz2 ⊢
    have s0 := s0.trans sz
    have g1 := g1.same sz
    refine fun p2 dx npx ndx hne => ?_
    have sM : Same H3 (upd (upd H3 dx (.own p2)) p2 (.ins C dx [])) := made_up npx ndx
    have nf2 := s0.free npx
    have ng12 : p1 ≠ p2 := ne_of_none (g1.ins.choose_spec) npx
    refine ⟨p2, dx, z2, ts, rfl, upd_same, (.inl (sM _ _ hz2)), (hb_ts).kp (Kp.of (s0.trans sM)), sm_ts, fun z => absurd z (by have := du_ts; omega), fun _ H4 l2 hk hF g2 => ⟨rfl, ?_⟩⟩
    have sm := made_same npx ndx hk
    clear hk hF sM npx ndx
    have s0 := s0.trans sm
    have g1 := g1.same sm
    refine ⟨.ref a, rfl, a, _, rfl, .inl (SqL.of (s0 _ _ ha)), fun z3 nz3 => ?_⟩
    have sz := same_new nz3 (o := .lst (bv os))
    have hz3 : (upd H4 z3 (.lst (bv os))) z3 = some (.lst (bv os)) := upd_same
    generalize upd H4 z3 (.lst (bv os)) = H5 at sz hz3 ⊢
    have s0 := s0.trans sz
    have g1 := g1.same sz
    have g2 := g2.same sz
    refine fun p3 dx npx ndx hne => ?_
    have sM : Same H5 (upd (upd H5 dx (.own p3)) p3 (.ins C dx [])) := made_up npx ndx
    have nf3 := s0.free npx
    have ng13 : p1 ≠ p3 := ne_of_none (g1.ins.choose_spec) npx
    have ng23 : p2 ≠ p3 := ne_of_none (g2.ins.choose_spec) npx
    refine ⟨p3, dx, z3, os, rfl, upd_same, (.inl (sM _ _ hz3)), (hb_os).kp (Kp.of (s0.trans sM)), sm_os, fun z => absurd z (by have := du_os; omega), fun _ H6 l3 hk hF g3 => ⟨rfl, ?_⟩⟩
    have sm := made_same npx ndx hk
    clear hk hF sM npx ndx
    have s0 := s0.trans sm
    have g1 := g1.same sm
    have g2 := g2.same sm
    refine ⟨_, _, _, rfl, ?_⟩
    refine ⟨.ref a, rfl, .ref b, rfl, a, b, _, _, rfl, rfl, (s0 _ _ ha), (s0 _ _ hb), (by simp only [bv_len, List.length_singleton, sizeLine_eq]; omega), fun z4 nz4 => ?_⟩
    rw [← bv_app]
    have sz := same_new nz4 (o := .lst (bv (os ++ ts)))
    have hz4 : (upd H6 z4 (.lst (bv (os ++ ts)))) z4 = some (.lst (bv (os ++ ts))) := upd_same
    generalize upd H6 z4 (.lst (bv (os ++ ts))) = H7 at sz hz4 ⊢
    have s0 := s0.trans sz
    have g1 := g1.same sz
    have g2 := g2.same sz
    have g3 := g3.same sz
    refine ⟨z4, os ++ ts, rfl, hz4, (hb_os.app hb_ts).kp (Kp.of s0), fun H8 sm => ?_⟩
    have s0 := s0.trans sm
    have g1 := g1.same sm
    have g2 := g2.same sm
    have g3 := g3.same sm
    refine ⟨.int _, rfl, _, _, rfl, rfl, _, rfl, ite2 (fun hdu => ?_) (fun hdu => ?_)⟩
    · have hdu : 0 < dueN (os ++ ts) := by have := of_decide_eq_true hdu; omega
      refine ⟨.ref p1, rfl, .ref p2, rfl, .int _, rfl, p1, p2, l1, l2, os, ts, rfl, g1, g2, sm_ot, hdu, fun H9 sm => ⟨true, rfl, iteF ?_⟩⟩
      have s0 := s0.trans sm
      have g1 := g1.same sm
      have g2 := g2.same sm
      have g3 := g3.same sm
      refine ⟨.ref p3, rfl, .ref p2, rfl, .int _, rfl, p3, p2, l3, l2, os, ts, rfl, g3, g2, sm_ot, fun _ H10 sm => ⟨true, rfl, iteF ?_⟩, fun z => absurd z (by omega)⟩
      have s0 := s0.trans sm
      have g1 := g1.same sm
      have g2 := g2.same sm
      have g3 := g3.same sm
      refine ⟨.ref p1, rfl, .ref a, rfl, p1, a, l1, os, rfl, g1, (s0 _ _ ha), sm_os, fun H11 sm => ⟨true, rfl, iteT ?_⟩⟩
      have s0 := s0.trans sm
      have g1 := g1.same sm
      have g2 := g2.same sm
      have g3 := g3.same sm
      refine ⟨.ref p2, rfl, .ref b, rfl, p2, b, l2, ts, rfl, g2, (s0 _ _ hb), sm_ts, fun H12 sm => ⟨true, rfl, iteT ?_⟩⟩
      have s0 := s0.trans sm
      have g1 := g1.same sm
      have g2 := g2.same sm
      have g3 := g3.same sm
      exact ⟨.ref p3, rfl, .ref a, rfl, p3, a, l3, os, rfl, g3, s0 _ _ ha, sm_os, fun H' _ => q H'⟩
    have hdu : dueN (os ++ ts) = 0 := by
      refine Nat.eq_zero_of_not_pos fun z => hdu (decide_eq_true ?_)
      show (((dueN (os ++ ts) : Nat) : Int)) > 0; omega
    obtain ⟨dx1, hp1⟩ := g1.ins
    obtain ⟨dx2, hp2⟩ := g2.ins
    refine ⟨.ref p1, rfl, .ref p2, rfl, p1, p2, dx1, fs3 l1, dx2, fs3 l2, rfl, rfl, hp1, hp2, p1, p2, l1, l2, os, ts, rfl, g1, g2, sm_ot, fun z => absurd z (by omega), fun _ H9 p6 l6 sm np6 g6 => ⟨⟨p6, rfl⟩, ?_⟩⟩
    have n16 : p1 ≠ p6 := ne_of_none hp1 np6
    have n26 : p2 ≠ p6 := ne_of_none hp2 np6
    have n36 : p3 ≠ p6 := ne_of_none (g3.ins.choose_spec) np6
    have nf6 := s0.free np6
    clear hp1 hp2 np6
    have s0 := s0.trans sm
    have g1 := g1.same sm
    have g2 := g2.same sm
    have g3 := g3.same sm
    refine ⟨.ref p6, rfl, ?_⟩
    refine ⟨.ref a, rfl, .ref b, rfl, a, b, _, _, rfl, rfl, (s0 _ _ ha), (s0 _ _ hb), (by simp only [bv_len, List.length_singleton, sizeLine_eq]; omega), fun z5 nz5 => ?_⟩
    rw [← bv_app]
    have sz := same_new nz5 (o := .lst (bv (os ++ ts)))
    have hz5 : (upd H9 z5 (.lst (bv (os ++ ts)))) z5 = some (.lst (bv (os ++ ts))) := upd_same
    generalize upd H9 z5 (.lst (bv (os ++ ts))) = H10 at sz hz5 ⊢
    have s0 := s0.trans sz
    have g1 := g1.same sz
    have g2 := g2.same sz
    have g3 := g3.same sz
    have g6 := g6.same sz
    refine ⟨p6, z5, l6, os ++ ts, rfl, g6, hz5, sm_ot, fun H11 sm => ⟨true, rfl, iteF ?_⟩⟩
    have s0 := s0.trans sm
    have g1 := g1.same sm
    have g2 := g2.same sm
    have g3 := g3.same sm
    have g6 := g6.same sm
    refine ⟨.ref p1, rfl, .ref a, rfl, p1, a, l1, os, rfl, g1, (s0 _ _ ha), sm_os, fun H12 sm => ⟨true, rfl, iteF ?_⟩⟩
    have s0 := s0.trans sm
    have g1 := g1.same sm
    have g2 := g2.same sm
    have g3 := g3.same sm
    have g6 := g6.same sm
    refine ⟨.ref p2, rfl, .ref b, rfl, p2, b, l2, ts, rfl, g2, (s0 _ _ hb), sm_ts, fun H13 sm => ⟨true, rfl, iteF ?_⟩⟩
    have s0 := s0.trans sm
    have g1 := g1.same sm
    have g2 := g2.same sm
    have g3 := g3.same sm
    have g6 := g6.same sm
    refine ⟨.ref p3, rfl, .ref p2, rfl, ?_⟩
    have hpx := g3.ins.choose_spec
    refine ⟨p3, p2, l3, l2, os, ts, (by rw [hdu]; rfl), g3, g2, sm_ot, fun z => absurd z (by have := hdu; omega), fun _ H14 l3 hk gx => ⟨true, rfl, iteF ?_⟩⟩
    have s0 := same_butp s0 nf3 hk
    have g1 := g1.oth hpx ng13 hk
    have g2 := g2.oth hpx ng23 hk
    have g6 := g6.oth hpx (Ne.symm n36) hk
    have g3 := gx
    clear hpx hk gx
    refine ⟨.ref p3, rfl, ?_⟩
    refine ⟨.ref a, rfl, .ref b, rfl, a, b, _, _, rfl, rfl, (s0 _ _ ha), (s0 _ _ hb), (by simp only [bv_len, List.length_singleton, sizeLine_eq]; omega), fun z6 nz6 => ?_⟩
    rw [← bv_app]
    have sz := same_new nz6 (o := .lst (bv (os ++ ts)))
    have hz6 : (upd H14 z6 (.lst (bv (os ++ ts)))) z6 = some (.lst (bv (os ++ ts))) := upd_same
    generalize upd H14 z6 (.lst (bv (os ++ ts))) = H15 at sz hz6 ⊢
    have s0 := s0.trans sz
    have g1 := g1.same sz
    have g2 := g2.same sz
    have g3 := g3.same sz
    have g6 := g6.same sz
    refine ⟨p3, z6, l3, os ++ ts, rfl, g3, hz6, sm_ot, fun H16 sm => ⟨true, rfl, iteF ?_⟩⟩
    have s0 := s0.trans sm
    have g1 := g1.same sm
    have g2 := g2.same sm
    have g3 := g3.same sm
    have g6 := g6.same sm
    refine ⟨.ref p2, rfl, .ref b, rfl, p2, b, l2, ts, rfl, g2, (s0 _ _ hb), sm_ts, fun H17 sm => ⟨true, rfl, iteF ?_⟩⟩
    have s0 := s0.trans sm
    have g1 := g1.same sm
    have g2 := g2.same sm
    have g3 := g3.same sm
    have g6 := g6.same sm
    have hbo := hb_os.kp (Kp.of s0)
    have hbt := hb_ts.kp (Kp.of s0)
    refine ⟨.ref p3, rfl, .ref p6, rfl, _, _, true, rfl, .inl ⟨p3, p6, l3, l6, os ++ ts, os ++ ts, rfl, rfl, g3, g6, sh_eq (bsD_sh (hbo.app hbt))⟩, true, rfl, iteF ⟨.ref p3, rfl, .ref p1, rfl, .ref b, rfl, .ref b, ts.length, rfl, .inl ⟨_, SqL.of (s0 _ _ hb), (bv_len _).symm⟩, rfl, _, _, _, rfl, .inl ⟨p3, p1, l3, l1, os ++ ts, os, rfl, rfl, g3, g1, joined_eq hbo ts⟩, true, rfl, iteF ?_⟩⟩
    clear hbo hbt
    refine fun p7 dx npx ndx hne => ?_
    have sM : Same H17 (upd (upd H17 dx (.own p7)) p7 (.ins C dx [])) := made_up npx ndx
    have nf7 := s0.free npx
    have ng17 : p1 ≠ p7 := ne_of_none (g1.ins.choose_spec) npx
    have ng27 : p2 ≠ p7 := ne_of_none (g2.ins.choose_spec) npx
    have ng37 : p3 ≠ p7 := ne_of_none (g3.ins.choose_spec) npx
    have ng67 : p6 ≠ p7 := ne_of_none (g6.ins.choose_spec) npx
    refine ⟨p7, dx, d0, [], rfl, upd_same, (.inr ⟨rfl, D0 _⟩), (bst_nil H).kp (Kp.of (s0.trans sM)), sm_nil, fun z => absurd z (by have := du_nil; omega), fun _ H18 l7 hk hF g7 => ⟨rfl, ?_⟩⟩
    have sm := made_same npx ndx hk
    clear hk hF sM npx ndx
    have s0 := s0.trans sm
    have g1 := g1.same sm
    have g2 := g2.same sm
    have g3 := g3.same sm
    have g6 := g6.same sm
    refine ⟨.ref p7, rfl, ?_⟩
    refine ⟨.ref a, rfl, a, _, rfl, .inl (SqL.of (s0 _ _ ha)), fun z7 nz7 => ?_⟩
    have sz := same_new nz7 (o := .lst (bv os))
    have hz7 : (upd H18 z7 (.lst (bv os))) z7 = some (.lst (bv os)) := upd_same
    generalize upd H18 z7 (.lst (bv os)) = H19 at sz hz7 ⊢
    have s0 := s0.trans sz
    have g1 := g1.same sz
    have g2 := g2.same sz
    have g3 := g3.same sz
    have g6 := g6.same sz
    have g7 := g7.same sz
    refine fun p8 dx npx ndx hne => ?_
    have sM : Same H19 (upd (upd H19 dx (.own p8)) p8 (.ins C dx [])) := made_up npx ndx
    have nf8 := s0.free npx
    have ng18 : p1 ≠ p8 := ne_of_none (g1.ins.choose_spec) npx
    have ng28 : p2 ≠ p8 := ne_of_none (g2.ins.choose_spec) npx
    have ng38 : p3 ≠ p8 := ne_of_none (g3.ins.choose_spec) npx
    have ng68 : p6 ≠ p8 := ne_of_none (g6.ins.choose_spec) npx
    have ng78 : p7 ≠ p8 := ne_of_none (g7.ins.choose_spec) npx
    refine ⟨p8, dx, z7, os, rfl, upd_same, (.inl (sM _ _ hz7)), (hb_os).kp (Kp.of (s0.trans sM)), sm_os, fun z => absurd z (by have := du_os; omega), fun _ H20 l8 hk hF g8 => ⟨rfl, ?_⟩⟩
    have sm := made_same npx ndx hk
    clear hk hF sM npx ndx
    have s0 := s0.trans sm
    have g1 := g1.same sm
    have g2 := g2.same sm
    have g3 := g3.same sm
    have g6 := g6.same sm
    have g7 := g7.same sm
    have hpx := g7.ins.choose_spec
    refine ⟨p7, p8, l7, l8, [], os, (by rw [du_no]; rfl), g7, g8, sm_no, fun z => absurd z (by have := du_no; omega), fun _ H21 l7 hk gx => ⟨true, rfl, iteF ?_⟩⟩
    have s0 := same_butp s0 nf7 hk
    have g1 := g1.oth hpx ng17 hk
    have g2 := g2.oth hpx ng27 hk
    have g3 := g3.oth hpx ng37 hk
    have g6 := g6.oth hpx ng67 hk
    have g8 := g8.oth hpx (Ne.symm ng78) hk
    have g7 := gx
    clear hpx hk gx
    refine ⟨.ref p7, rfl, .ref a, rfl, p7, a, l7, os, rfl, g7, (s0 _ _ ha), sm_os, fun H22 sm => ⟨true, rfl, iteF ?_⟩⟩
    have s0 := s0.trans sm
    have g1 := g1.same sm
    have g2 := g2.same sm
    have g3 := g3.same sm
    have g6 := g6.same sm
    have g7 := g7.same sm
    have g8 := g8.same sm
    refine fun p9 dx npx ndx hne => ?_
    have sM : Same H22 (upd (upd H22 dx (.own p9)) p9 (.ins C dx [])) := made_up npx ndx
    have nf9 := s0.free npx
    have ng19 : p1 ≠ p9 := ne_of_none (g1.ins.choose_spec) npx
    have ng29 : p2 ≠ p9 := ne_of_none (g2.ins.choose_spec) npx
    have ng39 : p3 ≠ p9 := ne_of_none (g3.ins.choose_spec) npx
    have ng69 : p6 ≠ p9 := ne_of_none (g6.ins.choose_spec) npx
    have ng79 : p7 ≠ p9 := ne_of_none (g7.ins.choose_spec) npx
    have ng89 : p8 ≠ p9 := ne_of_none (g8.ins.choose_spec) npx
    refine ⟨p9, dx, d0, [], rfl, upd_same, (.inr ⟨rfl, D0 _⟩), (bst_nil H).kp (Kp.of (s0.trans sM)), sm_nil, fun z => absurd z (by have := du_nil; omega), fun _ H23 l9 hk hF g9 => ⟨rfl, ?_⟩⟩
    have sm := made_same npx ndx hk
    clear hk hF sM npx ndx
    have s0 := s0.trans sm
    have g1 := g1.same sm
    have g2 := g2.same sm
    have g3 := g3.same sm
    have g6 := g6.same sm
    have g7 := g7.same sm
    have g8 := g8.same sm
    refine ⟨Nat.zero_le _, fun ze nze => ?_⟩
    have sz := same_new nze (o := .lst [])
    have hze : (upd H23 ze (.lst [])) ze = some (.lst []) := upd_same
    generalize upd H23 ze (.lst []) = H24 at sz hze ⊢
    have s0 := s0.trans sz
    have g1 := g1.same sz
    have g2 := g2.same sz
    have g3 := g3.same sz
    have g6 := g6.same sz
    have g7 := g7.same sz
    have g8 := g8.same sz
    have g9 := g9.same sz
    refine ⟨p9, ze, l9, [], rfl, g9, hze, sm_nil, fun H25 sm => ⟨true, rfl, iteF ?_⟩⟩
    have s0 := s0.trans sm
    have g1 := g1.same sm
    have g2 := g2.same sm
    have g3 := g3.same sm
    have g6 := g6.same sm
    have g7 := g7.same sm
    have g8 := g8.same sm
    have g9 := g9.same sm
    clear g7 g8 g9
    refine ⟨(by show 1 ≤ sizeLine; decide), fun u1 nu1 => ?_⟩
    have sz := same_new nu1 (o := .tup [.str (Str.ofString "end")])
    have hu1 : (upd H25 u1 (.tup [.str (Str.ofString "end")])) u1 = some (.tup [.str (Str.ofString "end")]) := upd_same
    generalize upd H25 u1 (.tup [.str (Str.ofString "end")]) = H26 at sz hu1 ⊢
    have s0 := s0.trans sz
    have g1 := g1.same sz
    have g2 := g2.same sz
    have g3 := g3.same sz
    have g6 := g6.same sz
    refine ⟨Nat.zero_le _, fun u2 nu2 => ?_⟩
    have sz := same_new nu2 (o := .tup [])
    have hu2 : (upd H26 u2 (.tup [])) u2 = some (.tup []) := upd_same
    generalize upd H26 u2 (.tup []) = H27 at sz hu2 ⊢
    have s0 := s0.trans sz
    have g1 := g1.same sz
    have g2 := g2.same sz
    have g3 := g3.same sz
    have g6 := g6.same sz
    have hu1 := sz _ _ hu1
    refine ⟨Nat.zero_le _, fun u3 nu3 => ?_⟩
    have sz := same_new nu3 (o := .tup [])
    have hu3 : (upd H27 u3 (.tup [])) u3 = some (.tup []) := upd_same
    generalize upd H27 u3 (.tup []) = H28 at sz hu3 ⊢
    have s0 := s0.trans sz
    have g1 := g1.same sz
    have g2 := g2.same sz
    have g3 := g3.same sz
    have g6 := g6.same sz
    have hu1 := sz _ _ hu1
    have hu2 := sz _ _ hu2
    refine ⟨(by show 4 ≤ sizeLine; decide), fun u4 nu4 => ?_⟩
    have sz := same_new nu4 (o := .tup [.int 1, .ref u1, .ref u2, .ref u3])
    have hu4 : (upd H28 u4 (.tup [.int 1, .ref u1, .ref u2, .ref u3])) u4 = some (.tup [.int 1, .ref u1, .ref u2, .ref u3]) := upd_same
    generalize upd H28 u4 (.tup [.int 1, .ref u1, .ref u2, .ref u3]) = H29 at sz hu4 ⊢
    have s0 := s0.trans sz
    have g1 := g1.same sz
    have g2 := g2.same sz
    have g3 := g3.same sz
    have g6 := g6.same sz
    have hu1 := sz _ _ hu1
    have hu2 := sz _ _ hu2
    have hu3 := sz _ _ hu3
    refine ⟨(by show 1 ≤ sizeLine; decide), fun u5 nu5 => ?_⟩
    have sz := same_new nu5 (o := .tup [.ref u4])
    have hu5 : (upd H29 u5 (.tup [.ref u4])) u5 = some (.tup [.ref u4]) := upd_same
    generalize upd H29 u5 (.tup [.ref u4]) = H30 at sz hu5 ⊢
    have s0 := s0.trans sz
    have g1 := g1.same sz
    have g2 := g2.same sz
    have g3 := g3.same sz
    have g6 := g6.same sz
    have hu1 := sz _ _ hu1
    have hu2 := sz _ _ hu2
    have hu3 := sz _ _ hu3
    have hu4 := sz _ _ hu4
    refine ⟨(by show 5 ≤ sizeLine; decide), fun u6 nu6 => ?_⟩
    have sz := same_new nu6 (o := .tup [.int 1, .int 0, .int 0, .bl false, .ref u5])
    have hu6 : (upd H30 u6 (.tup [.int 1, .int 0, .int 0, .bl false, .ref u5])) u6 = some (.tup [.int 1, .int 0, .int 0, .bl false, .ref u5]) := upd_same
    generalize upd H30 u6 (.tup [.int 1, .int 0, .int 0, .bl false, .ref u5]) = H31 at sz hu6 ⊢
    have s0 := s0.trans sz
    have g1 := g1.same sz
    have g2 := g2.same sz
    have g3 := g3.same sz
    have g6 := g6.same sz
    have hu1 := sz _ _ hu1
    have hu2 := sz _ _ hu2
    have hu3 := sz _ _ hu3
    have hu4 := sz _ _ hu4
    have hu5 := sz _ _ hu5
    refine ⟨(by show 1 ≤ sizeLine; decide), fun ex nex => ?_⟩
    have sz := same_new nex (o := .lst [.ref u6])
    have hex : (upd H31 ex (.lst [.ref u6])) ex = some (.lst [.ref u6]) := upd_same
    generalize upd H31 ex (.lst [.ref u6]) = H32 at sz hex ⊢
    have s0 := s0.trans sz
    have g1 := g1.same sz
    have g2 := g2.same sz
    have g3 := g3.same sz
    have g6 := g6.same sz
    have hu1 := sz _ _ hu1
    have hu2 := sz _ _ hu2
    have hu3 := sz _ _ hu3
    have hu4 := sz _ _ hu4
    have hu5 := sz _ _ hu5
    have hu6 := sz _ _ hu6
    obtain ⟨X, hX⟩ : ∃ X : Bk, X = ⟨u6, 1, 0, 0, false, u5, [⟨u4, 1, u1, Str.ofString "end", none, u2, [], u3, []⟩]⟩ := ⟨_, rfl⟩
    have hex : H32 ex = some (.lst (bv [X])) := by rw [hX]; exact hex
    have hbX : BsT H32 [X] := fun x hx => by
      rw [List.mem_singleton.mp hx, hX]
      refine ⟨hu6, hu5, by show 1 ≤ 50; decide, fun p hp => ?_⟩
      rw [List.mem_singleton.mp hp]
      exact ⟨hu4, hu1, (by show Str.ofString "end" ∈ words; decide +kernel), hu2, by show 0 ≤ 4; decide, hu3, by show 0 ≤ 4; decide⟩
    have du_X : dueN [X] = 0 := by rw [hX]; rfl
    have sm_X : Small [X] := ⟨by show 1 ≤ 200; decide, by rw [hX]; show 1 ≤ 200; decide⟩
    have sm_tX : Small (ts ++ [X]) := small2 lt1 lt2 (by show 1 ≤ 45; decide) (by rw [hX]; show 1 ≤ 45; decide)
    clear hu1 hu2 hu3 hu4 hu5 hu6 hX
    obtain ⟨Hx, eHx⟩ : ∃ Hx, Hx = H32 := ⟨_, rfl⟩
    have sx : Same Hx H32 := by rw [eHx]; exact Same.refl _
    rw [← eHx] at hex hbX
    refine ⟨fun σ' H' => σ' = [some (.ref a), some (.ref b), some (.ref p1), some (.ref p2), some (.ref p3), some (.int ((dueN (os ++ ts) : Nat) : Int)), some (.ref p6), some (.ref p7), some (.ref ex), none, none] ∧ Same H H' ∧ GalA C H' p1 l1 os ∧ GalA C H' p6 l6 (os ++ ts) ∧ GalA C H' p3 l3 (os ++ ts), ?_, ?_⟩
    · skip
      refine ⟨.ref b, rfl, .ref ex, rfl, b, ex, _, _, rfl, rfl, (s0 _ _ hb), (sx _ _ hex), (by simp only [bv_len, List.length_singleton, sizeLine_eq]; omega), fun z8 nz8 => ?_⟩
      rw [← bv_app]
      have sz := same_new nz8 (o := .lst (bv (ts ++ [X])))
      have hz8 : (upd H32 z8 (.lst (bv (ts ++ [X])))) z8 = some (.lst (bv (ts ++ [X]))) := upd_same
      generalize upd H32 z8 (.lst (bv (ts ++ [X]))) = H33 at sz hz8 ⊢
      have s0 := s0.trans sz
      have g1 := g1.same sz
      have g2 := g2.same sz
      have g3 := g3.same sz
      have g6 := g6.same sz
      have sx := sx.trans sz
      refine ⟨z8, ts ++ [X], rfl, hz8, (hb_ts.kp (Kp.of s0)).app (hbX.kp (Kp.of sx)), fun H34 sm => ?_⟩
      have s0 := s0.trans sm
      have g1 := g1.same sm
      have g2 := g2.same sm
      have g3 := g3.same sm
      have g6 := g6.same sm
      have sx := sx.trans sm
      refine ⟨rfl, _, rfl, ite2 (fun hd => ?_) (fun _ => ⟨rfl, s0, g1, g6, g3⟩)⟩
      have du_tX : dueN (ts ++ [X]) = 0 := by have := V.int.inj (of_decide_eq_true hd); omega
      have hb_X := hbX
      refine ⟨.ref p2, rfl, ?_⟩
      refine ⟨.ref ex, rfl, ex, _, rfl, .inl (SqL.of (sx _ _ hex)), fun z9 nz9 => ?_⟩
      have sz := same_new nz9 (o := .lst (bv [X]))
      have hz9 : (upd H34 z9 (.lst (bv [X]))) z9 = some (.lst (bv [X])) := upd_same
      generalize upd H34 z9 (.lst (bv [X])) = H35 at sz hz9 ⊢
      have s0 := s0.trans sz
      have g1 := g1.same sz
      have g2 := g2.same sz
      have g3 := g3.same sz
      have g6 := g6.same sz
      have sx := sx.trans sz
      refine fun p10 dx npx ndx hne => ?_
      have sM : Same H35 (upd (upd H35 dx (.own p10)) p10 (.ins C dx [])) := made_up npx ndx
      have ng110 : p1 ≠ p10 := ne_of_none (g1.ins.choose_spec) npx
      have ng210 : p2 ≠ p10 := ne_of_none (g2.ins.choose_spec) npx
      have ng310 : p3 ≠ p10 := ne_of_none (g3.ins.choose_spec) npx
      have ng610 : p6 ≠ p10 := ne_of_none (g6.ins.choose_spec) npx
      refine ⟨p10, dx, z9, [X], rfl, upd_same, (.inl (sM _ _ hz9)), hbX.kp (Kp.of (sx.trans sM)), sm_X, fun z => absurd z (by have := du_X; omega), fun _ H36 l10 hk hF g10 => ⟨rfl, ?_⟩⟩
      have sm := made_same npx ndx hk
      clear hk hF sM npx ndx
      have s0 := s0.trans sm
      have g1 := g1.same sm
      have g2 := g2.same sm
      have g3 := g3.same sm
      have g6 := g6.same sm
      have sx := sx.trans sm
      have hpx := g2.ins.choose_spec
      have nex2 : ex ≠ p2 := ne_of (sx _ _ hex) hpx (fun z => nomatch z)
      refine ⟨p2, p10, l2, l10, ts, [X], (by rw [du_tX]; rfl), g2, g10, sm_tX, fun z => absurd z (by omega), fun _ H37 l2 hk gx => ⟨true, rfl, iteF ?_⟩⟩
      have s0 := same_butp s0 nf2 hk
      have hex := hk _ _ nex2 (sx _ _ hex)
      have g1 := g1.oth hpx ng12 hk
      have g3 := g3.oth hpx (Ne.symm ng23) hk
      have g6 := g6.oth hpx (Ne.symm n26) hk
      have g2 := gx
      clear hpx hk gx g10 sx
      refine ⟨.ref p2, rfl, ?_⟩
      refine ⟨.ref b, rfl, .ref ex, rfl, b, ex, _, _, rfl, rfl, (s0 _ _ hb), hex, (by simp only [bv_len, List.length_singleton, sizeLine_eq]; omega), fun z10 nz10 => ?_⟩
      rw [← bv_app]
      have sz := same_new nz10 (o := .lst (bv (ts ++ [X])))
      have hz10 : (upd H37 z10 (.lst (bv (ts ++ [X])))) z10 = some (.lst (bv (ts ++ [X]))) := upd_same
      generalize upd H37 z10 (.lst (bv (ts ++ [X]))) = H38 at sz hz10 ⊢
      have s0 := s0.trans sz
      have g1 := g1.same sz
      have g2 := g2.same sz
      have g3 := g3.same sz
      have g6 := g6.same sz
      refine ⟨p2, z10, l2, ts ++ [X], rfl, g2, hz10, sm_tX, fun H39 sm => ⟨true, rfl, iteF ⟨rfl, s0.trans sm, g1.same sm, g6.same sm, g3.same sm⟩⟩⟩
    rintro σ' H52 ⟨rfl, s0, g1, g6, g3⟩
    clear g2 sx hex hbX eHx du_X sm_X sm_tX
    refine ⟨.ref a, rfl, .ref a, rfl, a, a, _, _, rfl, rfl, (s0 _ _ ha), (s0 _ _ ha), (by simp only [bv_len, List.length_singleton, sizeLine_eq]; omega), fun z11 nz11 => ?_⟩
    rw [← bv_app]
    have sz := same_new nz11 (o := .lst (bv (os ++ os)))
    have hz11 : (upd H52 z11 (.lst (bv (os ++ os)))) z11 = some (.lst (bv (os ++ os))) := upd_same
    generalize upd H52 z11 (.lst (bv (os ++ os))) = H53 at sz hz11 ⊢
    have s0 := s0.trans sz
    have g1 := g1.same sz
    have g6 := g6.same sz
    have g3 := g3.same sz
    refine ⟨z11, os ++ os, rfl, hz11, (hb_os.app hb_os).kp (Kp.of s0), fun H54 sm => ?_⟩
    have s0 := s0.trans sm
    have g1 := g1.same sm
    have g6 := g6.same sm
    have g3 := g3.same sm
    refine ⟨fun σ' H' => ∃ (l1 : L3) (ds : List Bk), σ' = [some (.ref a), some (.ref b), some (.ref p1), some (.ref p2), some (.ref p3), some (.int ((dueN (os ++ ts) : Nat) : Int)), some (.ref p6), some (.ref p7), some (.ref ex), some (.int ((dueN (os ++ os) : Nat) : Int)), none] ∧ Same H H' ∧ GalA C H' p1 l1 ds ∧ GalA C H' p6 l6 (os ++ ts) ∧ GalA C H' p3 l3 (os ++ ts) ∧ ((dueN (os ++ os) = 0 ∧ ds = os ++ os) ∨ (0 < dueN (os ++ os) ∧ ds = os)), ?_, ?_⟩
    · have hpx := g1.ins.choose_spec
      exact ⟨.ref p1, rfl, .ref p1, rfl, .int _, rfl, p1, p1, l1, l1, os, os, rfl, g1, g1, sm_oo, fun hz Hx sm => ⟨true, rfl, iteF ⟨l1, os, rfl, s0.trans sm, g1.same sm, g6.same sm, g3.same sm, .inr ⟨hz, rfl⟩⟩⟩, fun hz Hx lx hk gx => ⟨true, rfl, iteF ⟨lx, _, rfl, same_butp s0 nf1 hk, gx, g6.oth hpx (Ne.symm n16) hk, g3.oth hpx (Ne.symm ng13) hk, .inl ⟨hz, rfl⟩⟩⟩⟩
    rintro σ' H55 ⟨l1, ds, rfl, s0, g1, g6, g3, hds⟩
    obtain ⟨cs, ecs, hcs, sm_c⟩ : ∃ cs, ds = os ++ cs ∧ ((dueN (os ++ os) = 0 ∧ cs = os) ∨ (0 < dueN (os ++ os) ∧ cs = [])) ∧ Small (os ++ cs) := by
      rcases hds with ⟨h1, h2⟩ | ⟨h1, h2⟩
      · exact ⟨os, h2, .inl ⟨h1, rfl⟩, sm_oo⟩
      · exact ⟨[], by rw [h2, List.append_nil], .inr ⟨h1, rfl⟩, by rw [List.append_nil]; exact sm_os⟩
    rw [ecs] at g1
    have csl : cs.length ≤ 45 := by rcases hcs with ⟨_, h⟩ | ⟨_, h⟩; rw [h]; exact lo1; rw [h]; exact Nat.zero_le _
    refine ⟨.ref p1, rfl, .ref a, rfl, .ref a, rfl, a, rfl, ⟨_, SqL.of (s0 _ _ ha)⟩, fun D hD => ?_⟩
    refine lc_list (K := K) (a := a) (xs := bv os) (fun i H' => H' D = some (.lst (bv (cs.take i))) ∧ Same H55 H') ⟨by rw [List.take_zero]; exact upd_same, same_new hD⟩ (fun i H' _ ⟨_, s⟩ => SqL.of (s _ _ (s0 _ _ ha))) ?_ ?_
    · rintro i x H' hi ⟨hD', sm⟩
      refine ⟨rfl, .int _, rfl, rfl, _, rfl, ite2 (fun hz => ?_) (fun hz => ?_)⟩
      · have hz := V.int.inj (of_decide_eq_true hz)
        rcases hcs with ⟨_, rfl⟩ | ⟨h1, _⟩
        · obtain ⟨bb, en, rfl⟩ := of_bv hi
          refine ⟨.ref bb.t, rfl, _, hD', ?_, ?_, same_at sm hD⟩
          · rw [bv_len, List.length_take]; exact small1000 (by omega)
          · rw [upd_same, List.take_add_one, en, bv_snoc]; rfl
        · omega
      · rcases hcs with ⟨h1, _⟩ | ⟨_, rfl⟩
        · exact absurd (decide_eq_true (by rw [h1]; rfl)) hz
        · exact ⟨by rw [List.take_nil] at hD' ⊢; exact hD', sm⟩
    rintro H56 ⟨hDf, sm⟩
    have hDf : H56 D = some (.lst (bv cs)) := by
      rw [hDf, bv_len]; rcases hcs with ⟨_, rfl⟩ | ⟨_, rfl⟩
      · rw [List.take_length]
      · rw [List.take_nil]
    have s0 := s0.trans sm
    have g1 := g1.same sm
    have g6 := g6.same sm
    have g3 := g3.same sm
    refine ⟨a, D, _, _, rfl, rfl, s0 _ _ ha, hDf, (by simp only [bv_len, List.length_singleton, sizeLine_eq]; omega), fun z12 nz12 => ?_⟩
    rw [← bv_app]
    have sz := same_new nz12 (o := .lst (bv (os ++ cs)))
    have hz12 : (upd H56 z12 (.lst (bv (os ++ cs)))) z12 = some (.lst (bv (os ++ cs))) := upd_same
    generalize upd H56 z12 (.lst (bv (os ++ cs))) = H57 at sz hz12 ⊢
    have s0 := s0.trans sz
    have g1 := g1.same sz
    have g6 := g6.same sz
    have g3 := g3.same sz
    refine ⟨p1, z12, l1, os ++ cs, rfl, g1, hz12, sm_c, fun H58 sm => ⟨true, rfl, iteF ?_⟩⟩
    have s0 := s0.trans sm
    have g1 := g1.same sm
    have g6 := g6.same sm
    have g3 := g3.same sm
    refine ⟨.ref p6, rfl, ?_⟩
    refine ⟨.ref a, rfl, .ref b, rfl, a, b, _, _, rfl, rfl, (s0 _ _ ha), (s0 _ _ hb), (by simp only [bv_len, List.length_singleton, sizeLine_eq]; omega), fun z13 nz13 => ?_⟩
    rw [← bv_app]
    have sz := same_new nz13 (o := .lst (bv (os ++ ts)))
    have hz13 : (upd H58 z13 (.lst (bv (os ++ ts)))) z13 = some (.lst (bv (os ++ ts))) := upd_same
    generalize upd H58 z13 (.lst (bv (os ++ ts))) = H59 at sz hz13 ⊢
    have s0 := s0.trans sz
    have g1 := g1.same sz
    have g6 := g6.same sz
    have g3 := g3.same sz
    refine ⟨p6, z13, l6, os ++ ts, rfl, g6, hz13, sm_ot, fun H60 sm => ⟨true, rfl, iteT ?_⟩⟩
    have s0 := s0.trans sm
    have g1 := g1.same sm
    have g6 := g6.same sm
    have g3 := g3.same sm
    refine ⟨.ref p3, rfl, ?_⟩
    refine ⟨.ref a, rfl, .ref b, rfl, a, b, _, _, rfl, rfl, (s0 _ _ ha), (s0 _ _ hb), (by simp only [bv_len, List.length_singleton, sizeLine_eq]; omega), fun z14 nz14 => ?_⟩
    rw [← bv_app]
    have sz := same_new nz14 (o := .lst (bv (os ++ ts)))
    have hz14 : (upd H60 z14 (.lst (bv (os ++ ts)))) z14 = some (.lst (bv (os ++ ts))) := upd_same
    generalize upd H60 z14 (.lst (bv (os ++ ts))) = H61 at sz hz14 ⊢
    have s0 := s0.trans sz
    have g1 := g1.same sz
    have g6 := g6.same sz
    have g3 := g3.same sz
    exact ⟨p3, z14, l3, os ++ ts, rfl, g3, hz14, sm_ot, fun H' _ => q H'⟩
end
end K34

set_option maxRecDepth 100000
set_option maxHeartbeats 8000000
namespace K34
open PySem PySem.Spec PyProof.Rows L2
theorem six {Pz : V → Prop} {xs : List V} (hl : xs.length = 6) (h : ∀ x ∈ xs, Pz x) {d : Int} (hd : 0 ≤ d) : ∃ x, atI xs (if 5 < d then 5 else d) = some x ∧ Pz x := by
  obtain ⟨m, hm, e⟩ : ∃ m : Nat, m < 6 ∧ (if 5 < d then 5 else d) = (m : Int) := by
    by_cases h : 5 < d
    · exact ⟨5, by omega, by rw [if_pos h]; rfl⟩
    · exact ⟨d.toNat, by omega, by rw [if_neg h]; omega⟩
  obtain ⟨x, hg⟩ : ∃ x, xs[m]? = some x := ⟨_, List.getElem?_eq_getElem (by omega)⟩
  exact ⟨x, by rw [e]; exact atI_nat hg, h x (List.mem_of_getElem? hg)⟩
theorem two (i j : Int) (hi : 0 < i ∧ i < 3000) (hj : 0 < j ∧ j < 3000) {d : Int} (h0 : 0 ≤ d) (h1 : d < 2) : ∃ k : Int, atI [V.int i, .int j] d = some (.int k) ∧ 0 < k ∧ k < 3000 := by
  have : d = 0 ∨ d = 1 := by omega
  rcases this with rfl | rfl
  · exact ⟨i, rfl, hi⟩
  · exact ⟨j, rfl, hj⟩
theorem seq_same {K : PySem.W.Frag} {H H' : Hp} {a : Addr} {xs : List V} (s : Same H H') (h : SqL K H a xs) : SqL K H' a xs := by
  rcases h with (h | ⟨o, h⟩) | h
  · exact .inl (.inl (s _ _ h))
  · exact .inl (.inr ⟨o, s _ _ h⟩)
  · exact .inr h
section
variable {P : Program} {w : World} {K : PySem.W.Frag} {mg : Str → Option Value} {base : Heap} {t1 t2 : Tok} {C CT CN CL fa fj fe fb d0 : Addr} {da dj de db : FuncData}
/-! ### law -/
def spLaw (K : PySem.W.Frag) : Sp := fun vs H Q _ => ∃ (a : Addr) (ns : List Int), vs = [.ref a] ∧ SqL K H a (ns.map V.int) ∧ ns.length ≤ 63 ∧ ∀ H', Q (.bl true) H'
abbrev nLaw : List Str := ["_law_script", "_law_pick", "_law_sizes", "_law_wide", "_law_tall", "_law_one", "_law_two", "_law_rows", "_law_due_here", "_law_near_here"]
theorem scLaw : FnScope nLaw ["_law_script"] (defScope sLaw) := ⟨rfl, rfl, rfl, by decide +kernel, rfl, by decide +kernel, by decide +kernel⟩
theorem ok_law0 {f_init f f_shows f_equal f_due f_joins f_copied f_refused f_near f_made_blocks f_cells_from f_row f_cell : Addr} {fd_init fd fd_shows fd_equal fd_due fd_joins fd_copied fd_refused fd_near fd_made_blocks fd_cells_from fd_row fd_cell : FuncData} (B : Blt mg) (T : Gly K mg C) (M : Mk K C f_init) (O : Ops P w K mg base C CT CN fa fj fe fb da dj de db) (D0 : ∀ H, SqT K H d0 []) (b_init0 : Binds K fd_init pIn [.ref d0]) (F : Fun K "law" "law" sLaw f fd)
    (G_init : FnOk P w K mg base (L2N.CX P w) 4 f_init fd_init pIn (spInit K C CT)) (b_init : Binds K fd_init pIn [])
    (F_shows : Fun K "_law_shows" "_law_shows" sShows f_shows fd_shows) (b_shows : Binds K fd_shows pSh []) (g_shows : mg "_law_shows" = some (.ref f_shows)) (G_shows : FnOk P w K mg base CX0 7 f_shows fd_shows pSh (spShows C))
    (F_equal : Fun K "_law_equal" "_law_equal" sEqual f_equal fd_equal) (b_equal : Binds K fd_equal pEl []) (g_equal : mg "_law_equal" = some (.ref f_equal))
    (F_due : Fun K "_law_due" "_law_due" sDue f_due fd_due) (b_due : Binds K fd_due ["_law_blocks"] []) (g_due : mg "_law_due" = some (.ref f_due))
    (F_joins : Fun K "_law_joins" "_law_joins" sJoins f_joins fd_joins) (b_joins : Binds K fd_joins pJo []) (g_joins : mg "_law_joins" = some (.ref f_joins)) (G_joins : FnOk P w K mg base CX0 8 f_joins fd_joins pJo spJoins)
    (F_copied : Fun K "_law_copied" "_law_copied" sCopied f_copied fd_copied) (b_copied : Binds K fd_copied ["_law_blocks"] []) (g_copied : mg "_law_copied" = some (.ref f_copied)) (G_copied : FnOk P w K mg base CX0 8 f_copied fd_copied ["_law_blocks"] spCopied)
    (F_refused : Fun K "_law_refused" "_law_refused" sRefused f_refused fd_refused) (b_refused : Binds K fd_refused ["_law_blocks", "_law_due_here"] []) (g_refused : mg "_law_refused" = some (.ref f_refused)) (G_refused : FnOk P w K mg base CX0 6 f_refused fd_refused ["_law_blocks", "_law_due_here"] spRef)
    (F_near : Fun K "_law_near" "_law_near" sNear f_near fd_near) (b_near : Binds K fd_near pNr []) (g_near : mg "_law_near" = some (.ref f_near)) (G_near : FnOk P w K mg base CX0 2 f_near fd_near pNr spNear)
    (F_made_blocks : Fun K "_law_made_blocks" "_law_made_blocks" sBlocks f_made_blocks fd_made_blocks) (b_made_blocks : Binds K fd_made_blocks pMb []) (g_made_blocks : mg "_law_made_blocks" = some (.ref f_made_blocks)) (G_made_blocks : FnOk P w K mg base CX0 2 f_made_blocks fd_made_blocks pMb spMb)
    (F_cells_from : Fun K "_law_cells_from" "_law_cells_from" sFrom f_cells_from fd_cells_from) (b_cells_from : Binds K fd_cells_from ["_law_script", "_law_at"] []) (g_cells_from : mg "_law_cells_from" = some (.ref f_cells_from)) (G_cells_from : FnOk P w K mg base CX0 2 f_cells_from fd_cells_from ["_law_script", "_law_at"] (spCf K))
    (F_row : Fun K "_law_row" "_law_row" sRow f_row fd_row) (b_row : Binds K fd_row ["_law_cell_here", "_law_limits"] []) (g_row : mg "_law_row" = some (.ref f_row))
    (F_cell : Fun K "_law_cell" "_law_cell" sCell f_cell fd_cell) (b_cell : Binds K fd_cell ["_law_script", "_law_k"] []) (g_cell : mg "_law_cell" = some (.ref f_cell)) : FnOk P w K mg base CX0 9 f fd ["_law_script"] (spLaw K) := by
  have G_equal : FnOk P w K mg base CX0 2 f_equal fd_equal pEl (spEqual C) := ok_equal B O F_equal
  have G_due : FnOk P w K mg base CX0 1 f_due fd_due ["_law_blocks"] spDue := ok_due B F_due
  have G_row : FnOk P w K mg base CX0 1 f_row fd_row ["_law_cell_here", "_law_limits"] (spRow K) := ok_row B F_row
  have G_cell : FnOk P w K mg base CX0 1 f_cell fd_cell ["_law_script", "_law_k"] (spCell K) := ok_cell B F_cell
  refine F.ok scLaw (fun vs H Q E h => ?_) (fun cdv A0 outer s H vs Q E hr h => ?_)
  · obtain ⟨a, ns, rfl, _⟩ := h; rfl
  · obtain ⟨a, ns, rfl, hS, hns, q⟩ := h
    have hr8 : Room 8 _ := hr
    have hr7 : Room 7 _ := hr.mono (by decide)
    have hr6 : Room 6 _ := hr.mono (by decide)
    have hr5 : Room 5 _ := hr.mono (by decide)
    have hr2 : Room 2 _ := hr.mono (by decide)
    have hr1 : Room 1 _ := hr.mono (by decide)
    refine ⟨_, (pss_cons (ps_set (i := 1) scLaw.nd rfl (.inl rfl) (pe_call G_row hr1 (by rfl) g_row F_row.kp b_row .nil pass0 (pa_cons (pe_call G_cell hr1 (by rfl) g_cell F_cell.kp b_cell .nil pass0 (pa_cons (pv 0) (pa_cons pe_int pa_nil))) (pa_cons (pe_lst (pa_cons pe_int (pa_cons pe_int (pa_cons pe_int (pa_cons pe_int (pa_cons pe_int (pa_cons pe_int (pa_cons pe_int (pa_cons pe_int (pa_cons pe_int pa_nil)))))))))) pa_nil))))
      (pss_cons (ps_set (i := 2) scLaw.nd rfl (.inl rfl) (pe_ix ix_list (pe_lst (pa_cons (pe_tup (pa_cons pe_int (pa_cons pe_int pa_nil))) (pa_cons (pe_tup (pa_cons pe_int (pa_cons pe_int pa_nil))) (pa_cons (pe_tup (pa_cons pe_int (pa_cons pe_int pa_nil))) (pa_cons (pe_tup (pa_cons pe_int (pa_cons pe_int pa_nil))) (pa_cons (pe_tup (pa_cons pe_int (pa_cons pe_int pa_nil))) (pa_cons (pe_tup (pa_cons (pe_ix ix_list (pv 1) pe_int (fun _ _ => rfl)) (pa_cons (pe_ix ix_list (pv 1) pe_int (fun _ _ => rfl)) pa_nil))) pa_nil))))))) (pe_callB (call_min2 rfl) (by rfl) B.min (by decide +kernel) (pa_cons (pe_ix ix_list (pv 1) pe_int (fun _ _ => rfl)) (pa_cons pe_int pa_nil))) (fun _ _ => rfl)))
      (pss_cons (ps_par (i := 3) (j := 4) (by rfl) scLaw.nd rfl rfl (by decide) rfl rfl (pa_cons (pe_ix ix_list (pe_lst (pa_cons pe_int (pa_cons pe_int pa_nil))) (pe_ix ix_list (pv 1) pe_int (fun _ _ => rfl)) (fun _ _ => rfl)) (pa_cons (pe_ix ix_list (pe_lst (pa_cons pe_int (pa_cons pe_int pa_nil))) (pe_ix ix_list (pv 1) pe_int (fun _ _ => rfl)) (fun _ _ => rfl)) pa_nil)) (by rfl))
      (pss_cons (ps_set (i := 5) scLaw.nd rfl (.inl rfl) (pe_call G_made_blocks hr2 (by rfl) g_made_blocks F_made_blocks.kp b_made_blocks .nil pass0 (pa_cons (pe_call G_cells_from hr2 (by rfl) g_cells_from F_cells_from.kp b_cells_from .nil pass0 (pa_cons (pv 0) (pa_cons pe_int pa_nil))) (pa_cons (pe_ix ix_tup (pv 2) pe_int (fun _ _ => rfl)) (pa_cons (pe_ix ix_list (pv 1) pe_int (fun _ _ => rfl)) (pa_cons (pv 3) (pa_cons (pv 4) pa_nil)))))))
      (pss_cons (ps_set (i := 6) scLaw.nd rfl (.inl rfl) (pe_call G_made_blocks hr2 (by rfl) g_made_blocks F_made_blocks.kp b_made_blocks .nil pass0 (pa_cons (pe_call G_cells_from hr2 (by rfl) g_cells_from F_cells_from.kp b_cells_from .nil pass0 (pa_cons (pv 0) (pa_cons pe_int pa_nil))) (pa_cons (pe_ix ix_tup (pv 2) pe_int (fun _ _ => rfl)) (pa_cons (pe_ix ix_list (pv 1) pe_int (fun _ _ => rfl)) (pa_cons (pv 3) (pa_cons (pv 4) pa_nil)))))))
      (pss_cons (ps_for (PassesOwn.never) rfl (pi_list (pe_lst (pa_cons (pe_lst pa_nil) (pa_cons (pv 5) (pa_cons (pv 6) (pa_cons (pe_op op_cat (pv 5) (pv 6)) pa_nil)))))) (pg_name (i := 7) scLaw.nd rfl (.inl rfl))
      (pss_cons (ps_set (i := 8) scLaw.nd rfl (.inl rfl) (pe_call G_due hr1 (by rfl) g_due F_due.kp b_due .nil pass0 (pa_cons (pv 7) pa_nil)))
       (pss_cons (ps_if (PW.pt (pw_and (pt_cmpR op_gt (pv 8) pe_int (nomark _)) (pw_and1 (pt_not (pt_val (pe_call G_refused hr6 (by rfl) g_refused F_refused.kp b_refused .nil pass0 (pa_cons (pv 7) (pa_cons (pv 8) pa_nil))))))))
       (pss_one (ps_ret pe_bl))
       pss_nil)
       (pss_one (ps_if (PW.pt (pw_and (pt_cmpR op_eq (pv 8) pe_int (nomark _)) (pw_and1 (pt_not (pt_val (pe_call G_copied hr8 (by rfl) g_copied F_copied.kp b_copied .nil pass0 (pa_cons (pv 7) pa_nil)))))))
       (pss_one (ps_ret pe_bl))
       pss_nil)))))
      (pss_cons (ps_if (pt_not (pt_val (pe_call G_shows hr7 (by rfl) g_shows F_shows.kp b_shows .nil pass0 (pa_cons (pe_make0 M G_init hr5 (by rfl) T.mgC b_init0 (show Vals [V.ref d0] [Value.ref d0] from .cons rfl .nil) passNN) (pa_cons (pe_lst pa_nil) pa_nil)))))
      (pss_one (ps_ret pe_bl))
      pss_nil)
      (pss_cons (ps_if (PW.pt (pw_or (pt_cmpR op_gt (pe_call G_due hr1 (by rfl) g_due F_due.kp b_due .nil pass0 (pa_cons (pv 5) pa_nil)) pe_int (nomark _)) (pw_or1 (pt_cmpR op_gt (pe_call G_due hr1 (by rfl) g_due F_due.kp b_due .nil pass0 (pa_cons (pv 6) pa_nil)) pe_int (nomark _)))))
      (pss_one (ps_ret pe_bl))
      pss_nil)
      (Evl.pss_cut (ps_if (pt_cmpR op_gt (pe_callB call_len (by rfl) B.len PySem.boot_len (pa_cons (pv 5) pa_nil)) pe_int (nomark _))
      (pss_cons (ps_set (i := 9) scLaw.nd rfl (.inl rfl) (pe_call G_near hr2 (by rfl) g_near F_near.kp b_near .nil pass0 (pa_cons (pv 5) (pa_cons (pe_op op_modN (pe_callTy call_int1 (by rfl) B.int (by decide +kernel) (pa_cons (pe_ix ix_list (pv 1) pe_int (fun _ _ => rfl)) pa_nil)) (pe_callB call_len (by rfl) B.len PySem.boot_len (pa_cons (pv 5) pa_nil))) (pa_cons (pe_ix ix_list (pv 1) pe_int (fun _ _ => rfl)) pa_nil)))))
       (pss_one (ps_if (pt_not (pt_val (pe_call G_equal hr2 (by rfl) g_equal F_equal.kp b_equal .nil pass0 (pa_cons (pe_make M G_init hr5 (by rfl) T.mgC b_init .nil passNN (pa_cons (pv 9) pa_nil)) (pa_cons (pe_make M G_init hr5 (by rfl) T.mgC b_init .nil passNN (pa_cons (pe_callTy call_list_of (by rfl) B.list (by decide +kernel) (pa_cons (pv 5) pa_nil)) pa_nil)) (pa_cons pe_bl pa_nil))))))
       (pss_one (ps_ret pe_bl))
       pss_nil)))
      pss_nil)
      (pss_one (ps_ret (pe_call G_joins hr8 (by rfl) g_joins F_joins.kp b_joins .nil pass0 (pa_cons (pv 5) (pa_cons (pv 6) pa_nil)))))))))))))), ?_⟩
    have s0 := Same.refl H
    refine ⟨.ref a, rfl, a, ns, 0, rfl, hS, hns, by decide, fun c0 => ?_⟩
    refine ⟨(by show 9 ≤ sizeLine; decide), fun Lm nLm => ?_⟩
    have sz := same_new nLm (o := .lst [.int 9, .int 24, .int 24, .int 7, .int 7, .int 2, .int 2, .int 46, .int 5])
    have hLm : (upd H Lm (.lst [.int 9, .int 24, .int 24, .int 7, .int 7, .int 2, .int 2, .int 46, .int 5])) Lm = some (.lst [.int 9, .int 24, .int 24, .int 7, .int 7, .int 2, .int 2, .int 46, .int 5]) := upd_same
    generalize upd H Lm (.lst [.int 9, .int 24, .int 24, .int 7, .int 7, .int 2, .int 2, .int 46, .int 5]) = H1 at sz hLm ⊢
    have s0 := s0.trans sz
    refine ⟨c0, Lm, [9, 24, 24, 7, 7, 2, 2, 46, 5], rfl, SqL.of hLm, by decide, by decide, fun H2 R rs sm nR hR hrow => ?_⟩
    have s0 := s0.trans sm
    have hLm := sm _ _ hLm
    obtain ⟨r0, e0, f0, g0⟩ := row_get (i := 0) (l := 9) hrow rfl
    obtain ⟨r1, e1, f1, g1⟩ := row_get (i := 1) (l := 24) hrow rfl
    obtain ⟨r2, e2, f2, g2⟩ := row_get (i := 2) (l := 24) hrow rfl
    obtain ⟨r3, e3, f3, g3⟩ := row_get (i := 3) (l := 7) hrow rfl
    obtain ⟨r4, e4, f4, g4⟩ := row_get (i := 4) (l := 7) hrow rfl
    obtain ⟨r5, e5, f5, g5⟩ := row_get (i := 5) (l := 2) hrow rfl
    obtain ⟨r6, e6, f6, g6⟩ := row_get (i := 6) (l := 2) hrow rfl
    obtain ⟨r7, e7, f7, g7⟩ := row_get (i := 7) (l := 46) hrow rfl
    obtain ⟨r8, e8, f8, g8⟩ := row_get (i := 8) (l := 5) hrow rfl
    clear hrow
    refine ⟨(by show 2 ≤ sizeLine; decide), fun t0 nt0 => ?_⟩
    have sz := same_new nt0 (o := .tup [.int 40, .int 0])
    have ht0 : (upd H2 t0 (.tup [.int 40, .int 0])) t0 = some (.tup [.int 40, .int 0]) := upd_same
    generalize upd H2 t0 (.tup [.int 40, .int 0]) = H3 at sz ht0 ⊢
    have s0 := s0.trans sz
    have hLm := sz _ _ hLm
    have hR := sz _ _ hR
    refine ⟨(by show 2 ≤ sizeLine; decide), fun t1 nt1 => ?_⟩
    have sz := same_new nt1 (o := .tup [.int 41, .int 0])
    have ht1 : (upd H3 t1 (.tup [.int 41, .int 0])) t1 = some (.tup [.int 41, .int 0]) := upd_same
    generalize upd H3 t1 (.tup [.int 41, .int 0]) = H4 at sz ht1 ⊢
    have s0 := s0.trans sz
    have hLm := sz _ _ hLm
    have hR := sz _ _ hR
    have ht0 := sz _ _ ht0
    refine ⟨(by show 2 ≤ sizeLine; decide), fun t2 nt2 => ?_⟩
    have sz := same_new nt2 (o := .tup [.int 20, .int 20])
    have ht2 : (upd H4 t2 (.tup [.int 20, .int 20])) t2 = some (.tup [.int 20, .int 20]) := upd_same
    generalize upd H4 t2 (.tup [.int 20, .int 20]) = H5 at sz ht2 ⊢
    have s0 := s0.trans sz
    have hLm := sz _ _ hLm
    have hR := sz _ _ hR
    have ht0 := sz _ _ ht0
    have ht1 := sz _ _ ht1
    refine ⟨(by show 2 ≤ sizeLine; decide), fun t3 nt3 => ?_⟩
    have sz := same_new nt3 (o := .tup [.int 20, .int 21])
    have ht3 : (upd H5 t3 (.tup [.int 20, .int 21])) t3 = some (.tup [.int 20, .int 21]) := upd_same
    generalize upd H5 t3 (.tup [.int 20, .int 21]) = H6 at sz ht3 ⊢
    have s0 := s0.trans sz
    have hLm := sz _ _ hLm
    have hR := sz _ _ hR
    have ht0 := sz _ _ ht0
    have ht1 := sz _ _ ht1
    have ht2 := sz _ _ ht2
    refine ⟨(by show 2 ≤ sizeLine; decide), fun t4 nt4 => ?_⟩
    have sz := same_new nt4 (o := .tup [.int 39, .int 2])
    have ht4 : (upd H6 t4 (.tup [.int 39, .int 2])) t4 = some (.tup [.int 39, .int 2]) := upd_same
    generalize upd H6 t4 (.tup [.int 39, .int 2]) = H7 at sz ht4 ⊢
    have s0 := s0.trans sz
    have hLm := sz _ _ hLm
    have hR := sz _ _ hR
    have ht0 := sz _ _ ht0
    have ht1 := sz _ _ ht1
    have ht2 := sz _ _ ht2
    have ht3 := sz _ _ ht3
    refine ⟨.ref R, rfl, R, _, 1, .int r1, rfl, rfl, SqL.of hR, e1, .ref R, rfl, R, _, 2, .int r2, rfl, rfl, SqL.of hR, e2, ?_⟩
    refine ⟨(by show 2 ≤ sizeLine; decide), fun t5 nt5 => ?_⟩
    have sz := same_new nt5 (o := .tup [.int r1, .int r2])
    have ht5 : (upd H7 t5 (.tup [.int r1, .int r2])) t5 = some (.tup [.int r1, .int r2]) := upd_same
    generalize upd H7 t5 (.tup [.int r1, .int r2]) = H8 at sz ht5 ⊢
    have s0 := s0.trans sz
    have hLm := sz _ _ hLm
    have hR := sz _ _ hR
    have ht0 := sz _ _ ht0
    have ht1 := sz _ _ ht1
    have ht2 := sz _ _ ht2
    have ht3 := sz _ _ ht3
    have ht4 := sz _ _ ht4
    refine ⟨(by show 6 ≤ sizeLine; decide), fun Ls nLs => ?_⟩
    have sz := same_new nLs (o := .lst [.ref t0, .ref t1, .ref t2, .ref t3, .ref t4, .ref t5])
    have hLs : (upd H8 Ls (.lst [.ref t0, .ref t1, .ref t2, .ref t3, .ref t4, .ref t5])) Ls = some (.lst [.ref t0, .ref t1, .ref t2, .ref t3, .ref t4, .ref t5]) := upd_same
    generalize upd H8 Ls (.lst [.ref t0, .ref t1, .ref t2, .ref t3, .ref t4, .ref t5]) = H9 at sz hLs ⊢
    have s0 := s0.trans sz
    have hLm := sz _ _ hLm
    have hR := sz _ _ hR
    have ht0 := sz _ _ ht0
    have ht1 := sz _ _ ht1
    have ht2 := sz _ _ ht2
    have ht3 := sz _ _ ht3
    have ht4 := sz _ _ ht4
    have ht5 := sz _ _ ht5
    obtain ⟨xs, ex, tt, n1, n2, rfl, hn1, hn2, htt⟩ := six (Pz := fun x => ∃ (t : Addr) (n1 n2 : Nat), x = .ref t ∧ n1 ≤ 41 ∧ n2 ≤ 41 ∧ H9 t = some (.tup [.int (n1 : Int), .int (n2 : Int)])) (xs := [.ref t0, .ref t1, .ref t2, .ref t3, .ref t4, .ref t5]) rfl (fun x hx => by
      have hc : x = .ref t0 ∨ x = .ref t1 ∨ x = .ref t2 ∨ x = .ref t3 ∨ x = .ref t4 ∨ x = .ref t5 := by simpa using hx
      rcases hc with rfl | rfl | rfl | rfl | rfl | rfl
      · exact ⟨t0, 40, 0, rfl, by decide, by decide, ht0⟩
      · exact ⟨t1, 41, 0, rfl, by decide, by decide, ht1⟩
      · exact ⟨t2, 20, 20, rfl, by decide, by decide, ht2⟩
      · exact ⟨t3, 20, 21, rfl, by decide, by decide, ht3⟩
      · exact ⟨t4, 39, 2, rfl, by decide, by decide, ht4⟩
      · exact ⟨t5, r1.toNat, r2.toNat, rfl, by omega, by omega, by rw [Int.toNat_of_nonneg f1, Int.toNat_of_nonneg f2]; exact ht5⟩) f0
    refine ⟨.ref R, rfl, R, _, 0, .int r0, rfl, rfl, SqL.of hR, e0, r0, 5, rfl, Ls, _, _, _, rfl, rfl, SqL.of hLs, ex, ?_⟩
    clear ht0 ht1 ht2 ht3 ht4 ht5 hLs ex hLm
    obtain ⟨wd, ew, hw⟩ := two 4 2000 (by decide) (by decide) f5 g5
    obtain ⟨tl, et, htl⟩ := two 2 2000 (by decide) (by decide) f6 g6
    refine ⟨(by show 2 ≤ sizeLine; decide), fun l1 nl1 => ?_⟩
    have sz := same_new nl1 (o := .lst [.int 4, .int 2000])
    have hl1 : (upd H9 l1 (.lst [.int 4, .int 2000])) l1 = some (.lst [.int 4, .int 2000]) := upd_same
    generalize upd H9 l1 (.lst [.int 4, .int 2000]) = H10 at sz hl1 ⊢
    have s0 := s0.trans sz
    have hR := sz _ _ hR
    have htt := sz _ _ htt
    refine ⟨.ref R, rfl, R, _, 5, .int r5, rfl, rfl, SqL.of hR, e5, l1, _, _, _, rfl, rfl, SqL.of hl1, ew, ?_⟩
    refine ⟨(by show 2 ≤ sizeLine; decide), fun l2 nl2 => ?_⟩
    have sz := same_new nl2 (o := .lst [.int 2, .int 2000])
    have hl2 : (upd H10 l2 (.lst [.int 2, .int 2000])) l2 = some (.lst [.int 2, .int 2000]) := upd_same
    generalize upd H10 l2 (.lst [.int 2, .int 2000]) = H11 at sz hl2 ⊢
    have s0 := s0.trans sz
    have hR := sz _ _ hR
    have htt := sz _ _ htt
    have hl1 := sz _ _ hl1
    refine ⟨.ref R, rfl, R, _, 6, .int r6, rfl, rfl, SqL.of hR, e6, l2, _, _, _, rfl, rfl, SqL.of hl2, et, _, _, rfl, ?_⟩
    clear hl1 hl2
    refine ⟨.ref a, rfl, a, ns, 1, rfl, seq_same s0 hS, fun _ z => seq_same (s0.trans z) hS, hns, by decide, fun H12 cc cs sm nc hcc hc1 hc8 => ?_⟩
    have s0 := s0.trans sm
    have hR := sm _ _ hR
    have htt := sm _ _ htt
    refine ⟨.ref tt, rfl, tt, _, 0, .int (n1 : Int), rfl, rfl, SqT.of htt, rfl, .ref R, rfl, R, _, 3, .int r3, rfl, rfl, SqL.of hR, e3, .int wd, rfl, .int tl, rfl, cc, cs, n1, r3, wd, tl, rfl, hcc, hc1, by omega, by omega, f3, hw, htl, fun H13 o os sm no ho hb_os lo1 lo2 ne_os => ?_⟩
    have s0 := s0.trans sm
    have hR := sm _ _ hR
    have htt := sm _ _ htt
    clear hcc hc1 hc8 no nc
    refine ⟨.ref a, rfl, a, ns, 9, rfl, seq_same s0 hS, fun _ z => seq_same (s0.trans z) hS, hns, by decide, fun H14 cc cs sm nc hcc hc1 hc8 => ?_⟩
    have s0 := s0.trans sm
    have hR := sm _ _ hR
    have htt := sm _ _ htt
    have ho := sm _ _ ho
    have hb_os := hb_os.kp (Kp.of sm)
    refine ⟨.ref tt, rfl, tt, _, 1, .int (n2 : Int), rfl, rfl, SqT.of htt, rfl, .ref R, rfl, R, _, 4, .int r4, rfl, rfl, SqL.of hR, e4, .int wd, rfl, .int tl, rfl, cc, cs, n2, r4, wd, tl, rfl, hcc, hc1, by omega, by omega, f4, hw, htl, fun H15 u us sm no hu hb_us lu1 lu2 ne_us => ?_⟩
    have s0 := s0.trans sm
    have hR := sm _ _ hR
    have htt := sm _ _ htt
    have ho := sm _ _ ho
    have hb_os := hb_os.kp (Kp.of sm)
    clear hcc hc1 hc8 no nc
    have sm_os : Small os := ⟨by omega, by omega⟩
    have sm_us : Small us := ⟨by omega, by omega⟩
    have sm_ou : Small (os ++ us) := small2 lo1 lo2 lu1 lu2
    have sm_nil : Small [] := ⟨by show 0 ≤ 200; decide, by show 0 ≤ 200; decide⟩
    have du_nil : dueN [] = 0 := rfl
    refine ⟨Nat.zero_le _, fun e0 ne0 => ?_⟩
    have sz := same_new ne0 (o := .lst [])
    have he0 : (upd H15 e0 (.lst [])) e0 = some (.lst []) := upd_same
    generalize upd H15 e0 (.lst []) = H16 at sz he0 ⊢
    have s0 := s0.trans sz
    have hR := sz _ _ hR
    have htt := sz _ _ htt
    have ho := sz _ _ ho
    have hu := sz _ _ hu
    have hb_os := hb_os.kp (Kp.of sz)
    have hb_us := hb_us.kp (Kp.of sz)
    refine ⟨.ref o, rfl, .ref u, rfl, .ref o, rfl, .ref u, rfl, o, u, _, _, rfl, rfl, ho, hu, (by simp only [bv_len, sizeLine_eq]; omega), fun z9 nz9 => ?_⟩
    rw [← bv_app]
    have sz := same_new nz9 (o := .lst (bv (os ++ us)))
    have hz9 : (upd H16 z9 (.lst (bv (os ++ us)))) z9 = some (.lst (bv (os ++ us))) := upd_same
    generalize upd H16 z9 (.lst (bv (os ++ us))) = H17 at sz hz9 ⊢
    have s0 := s0.trans sz
    have hR := sz _ _ hR
    have htt := sz _ _ htt
    have ho := sz _ _ ho
    have hu := sz _ _ hu
    have he0 := sz _ _ he0
    have hb_os := hb_os.kp (Kp.of sz)
    have hb_us := hb_us.kp (Kp.of sz)
    refine ⟨(by show 4 ≤ sizeLine; decide), fun Q4 nQ4 => ?_⟩
    have sz := same_new nQ4 (o := .lst [.ref e0, .ref o, .ref u, .ref z9])
    have hQ4 : (upd H17 Q4 (.lst [.ref e0, .ref o, .ref u, .ref z9])) Q4 = some (.lst [.ref e0, .ref o, .ref u, .ref z9]) := upd_same
    generalize upd H17 Q4 (.lst [.ref e0, .ref o, .ref u, .ref z9]) = H18 at sz hQ4 ⊢
    have s0 := s0.trans sz
    have hR := sz _ _ hR
    have htt := sz _ _ htt
    have ho := sz _ _ ho
    have hu := sz _ _ hu
    have he0 := sz _ _ he0
    have hz9 := sz _ _ hz9
    have hb_os := hb_os.kp (Kp.of sz)
    have hb_us := hb_us.kp (Kp.of sz)
    have hall : ∀ x ∈ [V.ref e0, .ref o, .ref u, .ref z9], ∃ (r : Addr) (bs : List Bk), x = .ref r ∧ H18 r = some (.lst (bv bs)) ∧ BsT H18 bs ∧ Small bs := fun x hx => by
      have hc : x = .ref e0 ∨ x = .ref o ∨ x = .ref u ∨ x = .ref z9 := by simpa using hx
      rcases hc with rfl | rfl | rfl | rfl
      · exact ⟨e0, [], rfl, he0, bst_nil _, sm_nil⟩
      · exact ⟨o, os, rfl, ho, hb_os, sm_os⟩
      · exact ⟨u, us, rfl, hu, hb_us, sm_us⟩
      · exact ⟨z9, os ++ us, rfl, hz9, hb_os.app hb_us, sm_ou⟩
    refine ⟨Q4, rfl, ⟨_, SqL.of hQ4⟩, for_list (K := K) (a := Q4) (xs := [.ref e0, .ref o, .ref u, .ref z9]) (fun i σ H' => ∃ (y7 y8 : Option V), σ = [some (.ref a), some (.ref R), some (.ref tt), some (.int wd), some (.int tl), some (.ref o), some (.ref u), y7, y8, none] ∧ Same H18 H') ⟨none, none, rfl, Same.refl _⟩ (fun i σ H' _ ⟨_, _, _, sm⟩ => SqL.of (sm _ _ hQ4)) ?_ ?_⟩
    · rintro i x σ H' hi ⟨y7, y8, rfl, sm⟩
      obtain ⟨r, bs, rfl, hr0, hb0, sm0⟩ := hall x (List.mem_of_getElem? hi)
      refine ⟨.ref r, rfl, r, bs, rfl, sm _ _ hr0, hb0.kp (Kp.of sm), fun H2 s2 => ?_⟩
      have sm := sm.trans s2
      refine ⟨.int _, rfl, _, _, rfl, rfl, _, rfl, ite2 (fun h => ?_) (fun h => ?_)⟩
      · have h0 : 0 < dueN bs := by have := of_decide_eq_true h; omega
        refine ⟨.ref r, rfl, .int _, rfl, r, bs, rfl, sm _ _ hr0, hb0.kp (Kp.of sm), sm0, h0, fun H3 s3 => ⟨true, rfl, iteF ?_⟩⟩
        refine ⟨.int _, rfl, rfl, _, rfl, ite2 (fun z => ?_) (fun _ => ⟨_, _, rfl, sm.trans s3⟩)⟩
        have := V.int.inj (of_decide_eq_true z)
        omega
      · have h0 : dueN bs = 0 := by
          refine Nat.eq_zero_of_not_pos fun z => h (decide_eq_true ?_)
          show (((dueN bs : Nat) : Int)) > 0; omega
        refine ⟨.int _, rfl, rfl, _, rfl, ite2 (fun _ => ⟨.ref r, rfl, r, bs, rfl, sm _ _ hr0, hb0.kp (Kp.of sm), sm0, h0, fun H3 s3 => ⟨true, rfl, iteF ⟨_, _, rfl, sm.trans s3⟩⟩⟩) (fun z => absurd (decide_eq_true (by rw [h0]; rfl)) z)⟩
    rintro σ H20 ⟨y7, y8, rfl, sm⟩
    clear he0 hz9 hQ4 htt hall
    have s0 := s0.trans sm
    have hR := sm _ _ hR
    have ho := sm _ _ ho
    have hu := sm _ _ hu
    have hb_os := hb_os.kp (Kp.of sm)
    have hb_us := hb_us.kp (Kp.of sm)
    refine fun p9 dx npx ndx hne => ?_
    have sM : Same H20 (upd (upd H20 dx (.own p9)) p9 (.ins C dx [])) := made_up npx ndx
    have nf9 := s0.free npx
    refine ⟨p9, dx, d0, [], rfl, upd_same, (.inr ⟨rfl, D0 _⟩), (bst_nil H).kp (Kp.of (s0.trans sM)), sm_nil, fun z => absurd z (by have := du_nil; omega), fun _ H21 l9 hk hF g9 => ⟨rfl, ?_⟩⟩
    have sm := made_same npx ndx hk
    clear hk hF sM npx ndx
    have s0 := s0.trans sm
    have hR := sm _ _ hR
    have ho := sm _ _ ho
    have hu := sm _ _ hu
    have hb_os := hb_os.kp (Kp.of sm)
    have hb_us := hb_us.kp (Kp.of sm)
    refine ⟨Nat.zero_le _, fun ze nze => ?_⟩
    have sz := same_new nze (o := .lst [])
    have hze : (upd H21 ze (.lst [])) ze = some (.lst []) := upd_same
    generalize upd H21 ze (.lst []) = H22 at sz hze ⊢
    have s0 := s0.trans sz
    have g9 := g9.same sz
    have hR := sz _ _ hR
    have ho := sz _ _ ho
    have hu := sz _ _ hu
    have hb_os := hb_os.kp (Kp.of sz)
    have hb_us := hb_us.kp (Kp.of sz)
    refine ⟨p9, ze, l9, [], rfl, g9, hze, sm_nil, fun H23 sm => ⟨true, rfl, iteF ?_⟩⟩
    have s0 := s0.trans sm
    have g9 := g9.same sm
    have hR := sm _ _ hR
    have ho := sm _ _ ho
    have hu := sm _ _ hu
    have hb_os := hb_os.kp (Kp.of sm)
    have hb_us := hb_us.kp (Kp.of sm)
    clear g9 hze
    refine ⟨.ref o, rfl, o, os, rfl, ho, hb_os, fun H24 sm => ?_⟩
    have s0 := s0.trans sm
    have hR := sm _ _ hR
    have ho := sm _ _ ho
    have hu := sm _ _ hu
    have hb_os := hb_os.kp (Kp.of sm)
    have hb_us := hb_us.kp (Kp.of sm)
    refine ⟨_, _, rfl, rfl, _, rfl, ite2 (fun _ => q _) (fun hd => ?_)⟩
    have du_os : dueN os = 0 := by
      refine Nat.eq_zero_of_not_pos fun z => hd (decide_eq_true ?_)
      show (((dueN os : Nat) : Int)) > 0; omega
    clear hd
    refine ⟨.ref u, rfl, u, us, rfl, hu, hb_us, fun H25 sm => ?_⟩
    have s0 := s0.trans sm
    have hR := sm _ _ hR
    have ho := sm _ _ ho
    have hu := sm _ _ hu
    have hb_os := hb_os.kp (Kp.of sm)
    have hb_us := hb_us.kp (Kp.of sm)
    refine ⟨_, _, rfl, rfl, _, rfl, ite2 (fun _ => q _) (fun hd => ?_)⟩
    have du_us : dueN us = 0 := by
      refine Nat.eq_zero_of_not_pos fun z => hd (decide_eq_true ?_)
      show (((dueN us : Nat) : Int)) > 0; omega
    clear hd
    refine ⟨fun σ' H' => ∃ y9 : Option V, σ' = [some (.ref a), some (.ref R), some (.ref tt), some (.int wd), some (.int tl), some (.ref o), some (.ref u), y7, y8, y9] ∧ Same H25 H', ?_, ?_⟩
    · refine ⟨.ref o, rfl, .ref o, os.length, rfl, .inl ⟨_, SqL.of ho, (bv_len _).symm⟩, _, _, rfl, rfl, _, rfl, ite2 (fun hd => ?_) (fun _ => ⟨none, rfl, Same.refl _⟩)⟩
      have hl0 : 0 < os.length := by have := of_decide_eq_true hd; omega
      have p0 : 0 ≤ r7.fmod (os.length : Int) := Int.fmod_nonneg_of_pos _ (by omega)
      have p1 : r7.fmod (os.length : Int) < (os.length : Int) := Int.fmod_lt_of_pos _ (by omega)
      obtain ⟨m, hme⟩ := Int.eq_ofNat_of_zero_le p0
      have sB : Same H25 H25 := Same.refl _
      refine ⟨.ref o, rfl, .ref R, rfl, R, _, 7, .int r7, rfl, rfl, SqL.of hR, e7, .inl ⟨_, rfl, .ref o, rfl, .ref o, os.length, rfl, .inl ⟨_, SqL.of ho, (bv_len _).symm⟩, _, _, rfl, rfl, (by omega), .ref R, rfl, R, _, 8, .int r8, rfl, rfl, SqL.of hR, e8, o, os, m, r8, (by show [V.ref o, V.int (r7.fmod (os.length : Int)), V.int r8] = _; rw [hme]), ho, hb_os, sm_os, by omega, ne_os, by omega, fun H26 nr os2 sm nnr hnr hb_os2 sm_os2 du2 hneq => ?_⟩⟩
      have s0 := s0.trans sm
      have hR := sm _ _ hR
      have ho := sm _ _ ho
      have hu := sm _ _ hu
      have hb_os := hb_os.kp (Kp.of sm)
      have hb_us := hb_us.kp (Kp.of sm)
      have sB := sB.trans sm
      have du_os2 : dueN os2 = 0 := by rw [du2]; exact du_os
      clear du2 nnr
      refine ⟨.ref nr, rfl, ?_⟩
      refine fun p1 dx npx ndx hne => ?_
      have sM : Same H26 (upd (upd H26 dx (.own p1)) p1 (.ins C dx [])) := made_up npx ndx
      refine ⟨p1, dx, nr, os2, rfl, upd_same, (.inl (sM _ _ hnr)), hb_os2.kp (Kp.of sM), sm_os2, fun z => absurd z (by omega), fun _ H27 l1 hk hF g1 => ⟨rfl, ?_⟩⟩
      have sm := made_same npx ndx hk
      clear hk hF sM npx ndx
      have s0 := s0.trans sm
      have hR := sm _ _ hR
      have ho := sm _ _ ho
      have hu := sm _ _ hu
      have hnr := sm _ _ hnr
      have hb_os := hb_os.kp (Kp.of sm)
      have hb_us := hb_us.kp (Kp.of sm)
      have hb_os2 := hb_os2.kp (Kp.of sm)
      have sB := sB.trans sm
      refine ⟨.ref o, rfl, o, _, rfl, .inl (SqL.of ho), fun z1 nz1 => ?_⟩
      have sz := same_new nz1 (o := .lst (bv os))
      have hz1 : (upd H27 z1 (.lst (bv os))) z1 = some (.lst (bv os)) := upd_same
      generalize upd H27 z1 (.lst (bv os)) = H28 at sz hz1 ⊢
      have s0 := s0.trans sz
      have g1 := g1.same sz
      have hR := sz _ _ hR
      have ho := sz _ _ ho
      have hu := sz _ _ hu
      have hnr := sz _ _ hnr
      have hb_os := hb_os.kp (Kp.of sz)
      have hb_us := hb_us.kp (Kp.of sz)
      have hb_os2 := hb_os2.kp (Kp.of sz)
      have sB := sB.trans sz
      refine fun p2 dx npx ndx hne => ?_
      have sM : Same H28 (upd (upd H28 dx (.own p2)) p2 (.ins C dx [])) := made_up npx ndx
      refine ⟨p2, dx, z1, os, rfl, upd_same, (.inl (sM _ _ hz1)), hb_os.kp (Kp.of sM), sm_os, fun z => absurd z (by omega), fun _ H29 l2 hk hF g2 => ⟨rfl, ?_⟩⟩
      have sm := made_same npx ndx hk
      clear hk hF sM npx ndx
      have s0 := s0.trans sm
      have g1 := g1.same sm
      have hR := sm _ _ hR
      have ho := sm _ _ ho
      have hu := sm _ _ hu
      have hnr := sm _ _ hnr
      have hb_os := hb_os.kp (Kp.of sm)
      have hb_us := hb_us.kp (Kp.of sm)
      have hb_os2 := hb_os2.kp (Kp.of sm)
      have sB := sB.trans sm
      refine ⟨_, _, false, rfl, .inl ⟨p1, p2, l1, l2, os2, os, rfl, rfl, g1, g2, hneq⟩, true, rfl, iteF ⟨_, rfl, sB⟩⟩
    rintro σ' H55 ⟨y9, rfl, sm⟩
    have s0 := s0.trans sm
    have hR := sm _ _ hR
    have ho := sm _ _ ho
    have hu := sm _ _ hu
    have hb_os := hb_os.kp (Kp.of sm)
    have hb_us := hb_us.kp (Kp.of sm)
    exact ⟨.ref o, rfl, .ref u, rfl, o, u, os, us, rfl, ho, hu, hb_os, hb_us, lo1, lo2, lu1, lu2, du_os, du_us, fun H' => q H'⟩
end
end K34

set_option maxRecDepth 100000
set_option maxHeartbeats 8000000
namespace K34
open PySem PySem.Spec PyProof.Rows L2
section
variable {P : Program} {w : World} {K : PySem.W.Frag} {mg : Str → Option Value} {base : Heap} {t1 t2 : Tok}
theorem init_b2 {d0 f : Addr} {fd : FuncData} (F : InitD K d0 f fd) : Binds K fd pIn [] := by
  obtain ⟨ds, hv, hb⟩ : ∃ ds, Vals ([] : List V) ds ∧ Binds K fd pIn ds :=
    F.binds1 2 1 (fun z => nomatch z) rfl fun T kV doc pm an cdv ct us its e1 e2 => match us, its, e1, e2 with
      | [_, _], [_], _, _ => ⟨_, rfl, rfl⟩
  cases hv; exact hb
theorem init_b1 {d0 f : Addr} {fd : FuncData} (F : InitD K d0 f fd) : Binds K fd pIn [.ref d0] := by
  obtain ⟨ds, hv, hb⟩ : ∃ ds, Vals [V.ref d0] ds ∧ Binds K fd pIn ds :=
    F.binds1 1 0 (fun z => nomatch z) rfl fun T kV doc pm an cdv ct us its e1 e2 => match us, its, e1, e2 with
      | [_], [_], _, _ => ⟨_, rfl, rfl⟩
  obtain ⟨u, rfl, ru⟩ := hv.one
  obtain rfl : u = Value.ref d0 := ru
  exact hb
theorem ok_law {C CT CN CL d0 fT fN f_init pp pf f f_len f_iter f_eq f_add f_iadd f_pcs f_fgs f_block f_pieces f_figures f_owners f_sizes f_cell f_row f_number f_same f_made_piece f_made_blocks f_cells_from f_due f_refused f_sum_refused f_added f_no_piece f_equal f_shows f_copied f_next f_near f_joins : Addr} {fdT fdN fd_init fd fd_len fd_iter fd_eq fd_add fd_iadd fd_pcs fd_fgs fd_block fd_pieces fd_figures fd_owners fd_sizes fd_cell fd_row fd_number fd_same fd_made_piece fd_made_blocks fd_cells_from fd_due fd_refused fd_sum_refused fd_added fd_no_piece fd_equal fd_shows fd_copied fd_next fd_near fd_joins : FuncData} (B : Blt mg) (Z : Cst mg t1 t2) (T : Gly K mg C) (M : Mk K C f_init) (NT : TlE K mg CT fT fdT) (NN : NnE K mg CN fN fdN) (R : Ers K mg CT CN CL) (D0 : ∀ H, SqT K H d0 []) (FI : InitD K d0 f_init fd_init)
    (hcd : ∃ cd rest, PySem.W.clsIn K C = some cd ∧ cd.mro = .ref C :: rest) (nol : PySem.W.subIn K (.ref C) (.type "list") = some false) (F : Fun K "law" "law" sLaw f fd)
    (F_len : Fun K "__len__" "Galley.__len__" sLen f_len fd_len) (b_len : Binds K fd_len ["self"] []) (a_len : PySem.W.findIn K (.ref C) "__len__" = some (some (.ref f_len)) ∧ PySem.W.typeIn K (.ref f_len) = some (.type "function"))
    (F_iter : Fun K "__iter__" "Galley.__iter__" sIter f_iter fd_iter) (b_iter : Binds K fd_iter ["self"] []) (a_iter : PySem.W.findIn K (.ref C) "__iter__" = some (some (.ref f_iter)) ∧ PySem.W.isFn K (.ref f_iter) = true)
    (F_eq : Fun K "__eq__" "Galley.__eq__" sEq f_eq fd_eq) (b_eq : Binds K fd_eq pOt []) (a_eq : PySem.W.findIn K (.ref C) "__eq__" = some (some (.ref f_eq)) ∧ PySem.W.isFn K (.ref f_eq) = true)
    (F_add : Fun K "__add__" "Galley.__add__" sAdd f_add fd_add) (b_add : Binds K fd_add pOt []) (a_add : PySem.W.findIn K (.ref C) "__add__" = some (some (.ref f_add)) ∧ PySem.W.typeIn K (.ref f_add) = some (.type "function"))
    (F_iadd : Fun K "__iadd__" "Galley.__iadd__" sIadd f_iadd fd_iadd) (b_iadd : Binds K fd_iadd pOt []) (a_iadd : PySem.W.findIn K (.ref C) "__iadd__" = some (some (.ref f_iadd)) ∧ PySem.W.typeIn K (.ref f_iadd) = some (.type "function"))
    (F_pcs : Fun K "pieces" "Galley.pieces" sPcs f_pcs fd_pcs) (b_pcs : Binds K fd_pcs ["self"] []) (p_pcs : PropOf K C "pieces" pp f_pcs)
    (F_fgs : Fun K "figures" "Galley.figures" sFigs f_fgs fd_fgs) (b_fgs : Binds K fd_fgs ["self"] []) (p_fgs : PropOf K C "figures" pf f_fgs)
    (F_block : Fun K "block_at" "Galley.block_at" sBlock f_block fd_block) (b_block : Binds K fd_block pBl []) (m_block : Meth K C "block_at" f_block) (t_block : PySem.W.typeIn K (.ref f_block) = some (.type "function"))
    (F_pieces : Fun K "_pieces_of" "_pieces_of" sPieces f_pieces fd_pieces) (b_pieces : Binds K fd_pieces ["blocks"] []) (g_pieces : mg "_pieces_of" = some (.ref f_pieces))
    (F_figures : Fun K "_figures_of" "_figures_of" sFigures f_figures fd_figures) (b_figures : Binds K fd_figures ["pieces"] []) (g_figures : mg "_figures_of" = some (.ref f_figures))
    (F_owners : Fun K "_owners_of" "_owners_of" sOwners f_owners fd_owners) (b_owners : Binds K fd_owners ["blocks"] []) (g_owners : mg "_owners_of" = some (.ref f_owners))
    (F_sizes : Fun K "_check_sizes" "_check_sizes" sSizes f_sizes fd_sizes) (b_sizes : Binds K fd_sizes ["blocks"] []) (g_sizes : mg "_check_sizes" = some (.ref f_sizes))
    (F_cell : Fun K "_law_cell" "_law_cell" sCell f_cell fd_cell) (b_cell : Binds K fd_cell ["_law_script", "_law_k"] []) (g_cell : mg "_law_cell" = some (.ref f_cell))
    (F_row : Fun K "_law_row" "_law_row" sRow f_row fd_row) (b_row : Binds K fd_row ["_law_cell_here", "_law_limits"] []) (g_row : mg "_law_row" = some (.ref f_row))
    (F_number : Fun K "_law_number" "_law_number" sNumber f_number fd_number) (b_number : Binds K fd_number ["_law_value"] []) (g_number : mg "_law_number" = some (.ref f_number))
    (F_same : Fun K "_law_same" "_law_same" sSame f_same fd_same) (b_same : Binds K fd_same ["_law_one", "_law_two"] []) (g_same : mg "_law_same" = some (.ref f_same))
    (F_made_piece : Fun K "_law_made_piece" "_law_made_piece" sPiece f_made_piece fd_made_piece) (b_made_piece : Binds K fd_made_piece pMp []) (g_made_piece : mg "_law_made_piece" = some (.ref f_made_piece))
    (F_made_blocks : Fun K "_law_made_blocks" "_law_made_blocks" sBlocks f_made_blocks fd_made_blocks) (b_made_blocks : Binds K fd_made_blocks pMb []) (g_made_blocks : mg "_law_made_blocks" = some (.ref f_made_blocks))
    (F_cells_from : Fun K "_law_cells_from" "_law_cells_from" sFrom f_cells_from fd_cells_from) (b_cells_from : Binds K fd_cells_from ["_law_script", "_law_at"] []) (g_cells_from : mg "_law_cells_from" = some (.ref f_cells_from))
    (F_due : Fun K "_law_due" "_law_due" sDue f_due fd_due) (b_due : Binds K fd_due ["_law_blocks"] []) (g_due : mg "_law_due" = some (.ref f_due))
    (F_refused : Fun K "_law_refused" "_law_refused" sRefused f_refused fd_refused) (b_refused : Binds K fd_refused ["_law_blocks", "_law_due_here"] []) (g_refused : mg "_law_refused" = some (.ref f_refused))
    (F_sum_refused : Fun K "_law_sum_refused" "_law_sum_refused" sSumRef f_sum_refused fd_sum_refused) (b_sum_refused : Binds K fd_sum_refused p3 []) (g_sum_refused : mg "_law_sum_refused" = some (.ref f_sum_refused))
    (F_added : Fun K "_law_added" "_law_added" sAdded f_added fd_added) (b_added : Binds K fd_added p3 []) (g_added : mg "_law_added" = some (.ref f_added))
    (F_no_piece : Fun K "_law_no_piece" "_law_no_piece" sNoPiece f_no_piece fd_no_piece) (b_no_piece : Binds K fd_no_piece ["_law_galley", "_law_at"] []) (g_no_piece : mg "_law_no_piece" = some (.ref f_no_piece))
    (F_equal : Fun K "_law_equal" "_law_equal" sEqual f_equal fd_equal) (b_equal : Binds K fd_equal pEl []) (g_equal : mg "_law_equal" = some (.ref f_equal))
    (F_shows : Fun K "_law_shows" "_law_shows" sShows f_shows fd_shows) (b_shows : Binds K fd_shows pSh []) (g_shows : mg "_law_shows" = some (.ref f_shows))
    (F_copied : Fun K "_law_copied" "_law_copied" sCopied f_copied fd_copied) (b_copied : Binds K fd_copied ["_law_blocks"] []) (g_copied : mg "_law_copied" = some (.ref f_copied))
    (F_next : Fun K "_law_next" "_law_next" sNext f_next fd_next) (b_next : Binds K fd_next ["_law_value"] []) (g_next : mg "_law_next" = some (.ref f_next))
    (F_near : Fun K "_law_near" "_law_near" sNear f_near fd_near) (b_near : Binds K fd_near pNr []) (g_near : mg "_law_near" = some (.ref f_near))
    (F_joins : Fun K "_law_joins" "_law_joins" sJoins f_joins fd_joins) (b_joins : Binds K fd_joins pJo []) (g_joins : mg "_law_joins" = some (.ref f_joins)) : FnOk P w K mg base CX0 9 f fd ["_law_script"] (spLaw K) := by
  have b_init := init_b2 FI
  have b_init0 := init_b1 FI
  have G_sizes : FnOk P w K mg base (L2N.CX P w) 3 f_sizes fd_sizes ["blocks"] (spSizes K CT) := ok_sizes B Z NT F_sizes F_pieces b_pieces g_pieces F_figures b_figures g_figures
  have G_init : FnOk P w K mg base (L2N.CX P w) 4 f_init fd_init pIn (spInit K C CT) := ok_ginit B T FI F_sizes b_sizes g_sizes G_sizes F_pieces b_pieces g_pieces F_owners b_owners g_owners
  have O : Ops P w K mg base C CT CN f_add f_iadd f_eq f_block fd_add fd_iadd fd_eq fd_block := ⟨⟨hcd, a_add.1, a_add.2⟩, ok_add B T M F_add G_init b_init, b_add, ⟨hcd, a_iadd.1, a_iadd.2⟩, ok_iadd B T F_iadd F_sizes b_sizes g_sizes G_sizes F_pieces b_pieces g_pieces F_owners b_owners g_owners, b_iadd, a_eq, ok_eq B T F_eq, ni_eq B T F_eq b_eq, b_eq, nol, m_block, t_block, ok_block B T NN F_block, b_block⟩
  have S : Shw P w K mg base C f_iter f_len pp f_pcs pf f_fgs fd_iter fd_len fd_pcs fd_fgs := ⟨a_iter, ok_iter B T F_iter, b_iter, a_len, ok_len B T F_len, b_len, p_pcs, ok_pcs B T F_pcs, b_pcs, p_fgs, ok_fgs B T F_fgs F_figures b_figures g_figures, b_fgs⟩
  have G_shows : FnOk P w K mg base CX0 7 f_shows fd_shows pSh (spShows C) := ok_shows B T O S R F_shows F_same b_same g_same F_no_piece b_no_piece g_no_piece F_number b_number g_number
  have G_copied : FnOk P w K mg base CX0 8 f_copied fd_copied ["_law_blocks"] spCopied := ok_copied B T M O F_copied G_init b_init F_same b_same g_same F_shows b_shows g_shows G_shows F_equal b_equal g_equal
  have G_near : FnOk P w K mg base CX0 2 f_near fd_near pNr spNear := ok_near B F_near F_next b_next g_next
  have G_joins : FnOk P w K mg base CX0 8 f_joins fd_joins pJo spJoins := ok_joins B T M O R D0 b_init0 F_joins G_init b_init F_shows b_shows g_shows G_shows F_equal b_equal g_equal F_due b_due g_due F_added b_added g_added F_sum_refused b_sum_refused g_sum_refused F_number b_number g_number
  have G_refused : FnOk P w K mg base CX0 6 f_refused fd_refused ["_law_blocks", "_law_due_here"] spRef := ok_refused B T M R F_refused G_init b_init F_number b_number g_number
  have G_made_blocks : FnOk P w K mg base CX0 2 f_made_blocks fd_made_blocks pMb spMb := ok_made_blocks B F_made_blocks F_row b_row g_row F_made_piece b_made_piece g_made_piece
  have G_cells_from : FnOk P w K mg base CX0 2 f_cells_from fd_cells_from ["_law_script", "_law_at"] (spCf K) := ok_cells_from B F_cells_from F_cell b_cell g_cell
  exact ok_law0 B T M O D0 b_init0 F G_init b_init F_shows b_shows g_shows G_shows F_equal b_equal g_equal F_due b_due g_due F_joins b_joins g_joins G_joins F_copied b_copied g_copied G_copied F_refused b_refused g_refused G_refused F_near b_near g_near G_near F_made_blocks b_made_blocks g_made_blocks G_made_blocks F_cells_from b_cells_from g_cells_from G_cells_from F_row b_row g_row F_cell b_cell g_cell
end
end K34

set_option maxRecDepth 100000
set_option maxHeartbeats 4000000
namespace K34
open PySem PySem.Spec PyProof.Rows L2
theorem all_mk {l : PySem.W.OpenLaw} {w : World} {K : PySem.W.Frag} {h : Heap} {mg : Str → Option Value} {fa C CT CN CL f1 f2 f3 f4 f5 f6 f7 f8 f9 f10 f11 f12 f13 f14 f15 f16 f17 f18 f19 f20 f21 f22 f23 f24 f25 f26 f27 f28 f29 f30 f31 f32 f33 : Addr} (X : K.In h) (G : h.Ns mainGlobals mg) (hfa : mg "law" = some (.ref fa))
    {tk0 tk1 : Tok}
    {od1 an1 od2 an2 od3 an3 od4 an4 od5 an5 od6 an6 od7 an7 od8 an8 od9 an9 od10 an10 od11 an11 od12 an12 od13 an13 od14 an14 od15 an15 od16 an16 od17 an17 od18 an18 od19 an19 od20 an20 od21 an21 od22 an22 od23 an23 od24 an24 od25 an25 od26 an26 od27 an27 od28 an28 od29 an29 od30 an30 od31 an31 od32 an32 od33 an33 : Option Addr} {sl1 sl2 sl3 sl4 sl5 sl6 sl7 sl8 sl9 sl10 sl11 sl12 sl13 sl14 sl15 sl16 sl17 sl18 sl19 sl20 sl21 sl22 sl23 sl24 sl25 sl26 sl27 sl28 sl29 sl30 sl31 sl32 sl33 : Array (Option Value)}
    {oc1 kV1 dc1 pm1 cd1 ct1 oc2 kV2 dc2 pm2 cd2 ct2 oc3 kV3 dc3 pm3 cd3 ct3 oc4 kV4 dc4 pm4 cd4 ct4 oc5 kV5 dc5 pm5 cd5 ct5 oc6 kV6 dc6 pm6 cd6 ct6 oc7 kV7 dc7 pm7 cd7 ct7 oc8 kV8 dc8 pm8 cd8 ct8 oc9 kV9 dc9 pm9 cd9 ct9 oc10 kV10 dc10 pm10 cd10 ct10 oc11 kV11 dc11 pm11 cd11 ct11 oc12 kV12 dc12 pm12 cd12 ct12 oc13 kV13 dc13 pm13 cd13 ct13 oc14 kV14 dc14 pm14 cd14 ct14 oc15 kV15 dc15 pm15 cd15 ct15 oc16 kV16 dc16 pm16 cd16 ct16 oc17 kV17 dc17 pm17 cd17 ct17 oc18 kV18 dc18 pm18 cd18 ct18 oc19 kV19 dc19 pm19 cd19 ct19 oc20 kV20 dc20 pm20 cd20 ct20 oc21 kV21 dc21 pm21 cd21 ct21 oc22 kV22 dc22 pm22 cd22 ct22 oc23 kV23 dc23 pm23 cd23 ct23 oc24 kV24 dc24 pm24 cd24 ct24 oc25 kV25 dc25 pm25 cd25 ct25 oc26 kV26 dc26 pm26 cd26 ct26 oc27 kV27 dc27 pm27 cd27 ct27 oc28 kV28 dc28 pm28 cd28 ct28 oc29 kV29 dc29 pm29 cd29 ct29 oc30 kV30 dc30 pm30 cd30 ct30 oc31 kV31 dc31 pm31 cd31 ct31 oc32 kV32 dc32 pm32 cd32 ct32 oc33 kV33 dc33 pm33 cd33 ct33 : Value}
    {nm_CT q_CT : Str} {N_CT : Addr} {bs_CT bm_CT : List Value} {sn_CT : List Str} {sub_CT : List Value} {ab_CT : Bool} {col_CT : Option Bool} {dd_CT : Option Addr} {m0_CT m1_CT m2_CT m3_CT m5_CT : Option Value}
    {nm_CN q_CN : Str} {N_CN : Addr} {bs_CN bm_CN : List Value} {sn_CN : List Str} {sub_CN : List Value} {ab_CN : Bool} {col_CN : Option Bool} {dd_CN : Option Addr} {m0_CN m1_CN m2_CN m3_CN m5_CN : Option Value}
    {pp29 : Addr} {pl29 : List Value}
    {pp30 : Addr} {pl30 : List Value}
    {fc TD d0 : Addr} {odc anc odT od0 : Option Addr} {slc slT sl0 : Array (Option Value)} {occ kVc dcc pmc cdc ctc : Value} {nT n0 : Nat}
    (c_MOST_PIECES : PySem.W.nsIn K mainGlobals "MOST_PIECES" = some (some (.int 40 tk0)))
    (c_MOST_FIGURES : PySem.W.nsIn K mainGlobals "MOST_FIGURES" = some (some (.int 4 tk1)))
    (aC : PySem.W.nsIn K mainGlobals "Galley" = some (some (.ref C)))
    (pgC : PySem.W.plainGet K C Str.empty = true)
    (hdC : PySem.W.hasDictIn K C = true)
    (poC : PySem.W.plainOver K C = true)
    (saC : PySem.W.findIn K (.ref C) "__setattr__" = some (some (.builtin "object.__setattr__")))
    (mkC : PySem.W.makesIn K C = true)
    (kcC : PySem.W.keepIn K (.ref C) = true)
    (nC_blocks : PySem.W.findIn K (.ref C) "_blocks" = some none)
    (nC_pieces : PySem.W.findIn K (.ref C) "_pieces" = some none)
    (nC_owners : PySem.W.findIn K (.ref C) "_owners" = some none)
    (aCL : PySem.W.nsIn K mainGlobals "LaidError" = some (some (.ref CL)))
    (aCT : PySem.W.nsIn K mainGlobals "TooLarge" = some (some (.ref CT)))
    (x_CT : K.lookup CT = some (excClassObj nm_CT q_CT CT N_CT bs_CT bm_CT true sn_CT sub_CT ab_CT col_CT dd_CT m0_CT m1_CT m2_CT m3_CT m5_CT "ValueError.__new__"))
    (xb_CT : PySem.HandSPX.refsVE bm_CT = true)
    (sa_CT : PySem.W.findIn K (.ref CT) "__setattr__" = some (some (.builtin "object.__setattr__")))
    (xe_CT : PySem.W.subIn K (.ref CT) (.type "BaseException") = some true)
    (xt_CT : PySem.W.typeIn K (.ref CT) = some (.type "type"))
    (xk_CT : PySem.W.keepIn K (.ref CT) = true)
    (f_CT_many : PySem.W.findIn K (.ref CT) "many" = some none)
    (hg_CT : PySem.W.findIn K (.ref CT) "__getattribute__" = some (some (.builtin "BaseException.__getattribute__")))
    (hk_CT : PySem.W.findIn K (.ref CT) "__getattr__" = some none)
    (hd_CT : PySem.W.hasDictIn K CT = true)
    (ha_CT : PySem.W.findIn K (.ref CT) "__class__" = some (some (.builtin "object.__class__")))
    (hn_CT : PySem.W.specialIn K (.builtin "object.__class__") "__get__" = some (some (.builtin "getset_descriptor.__get__")))
    (ht_CT : PySem.W.takesIn K (.builtin "object.__class__") = some true)
    (hm_CT : PySem.W.mroIn K CT (.type "object") = some true)
    (ls_CT : PySem.W.subIn K (.ref CT) (.ref CT) = some true)
    (aCN : PySem.W.nsIn K mainGlobals "NoSuchNumber" = some (some (.ref CN)))
    (x_CN : K.lookup CN = some (excClassObj nm_CN q_CN CN N_CN bs_CN bm_CN true sn_CN sub_CN ab_CN col_CN dd_CN m0_CN m1_CN m2_CN m3_CN m5_CN "ValueError.__new__"))
    (xb_CN : PySem.HandSPX.refsVE bm_CN = true)
    (sa_CN : PySem.W.findIn K (.ref CN) "__setattr__" = some (some (.builtin "object.__setattr__")))
    (xe_CN : PySem.W.subIn K (.ref CN) (.type "BaseException") = some true)
    (xt_CN : PySem.W.typeIn K (.ref CN) = some (.type "type"))
    (xk_CN : PySem.W.keepIn K (.ref CN) = true)
    (f_CN_number : PySem.W.findIn K (.ref CN) "number" = some none)
    (hg_CN : PySem.W.findIn K (.ref CN) "__getattribute__" = some (some (.builtin "BaseException.__getattribute__")))
    (hk_CN : PySem.W.findIn K (.ref CN) "__getattr__" = some none)
    (hd_CN : PySem.W.hasDictIn K CN = true)
    (ha_CN : PySem.W.findIn K (.ref CN) "__class__" = some (some (.builtin "object.__class__")))
    (hn_CN : PySem.W.specialIn K (.builtin "object.__class__") "__get__" = some (some (.builtin "getset_descriptor.__get__")))
    (ht_CN : PySem.W.takesIn K (.builtin "object.__class__") = some true)
    (hm_CN : PySem.W.mroIn K CN (.type "object") = some true)
    (ls_CN : PySem.W.subIn K (.ref CN) (.ref CN) = some true)
    (kL_CT : PySem.W.kitOne K (.ref CT) (.ref CL) = some true)
    (kO_CT : PySem.W.kitOne K (.ref CT) (.ref CN) = some false)
    (kL_CN : PySem.W.kitOne K (.ref CN) (.ref CL) = some true)
    (kO_CN : PySem.W.kitOne K (.ref CN) (.ref CT) = some false)
    (ic_ha : PySem.W.findIn K (.ref C) "__class__" = some (some (.builtin "object.__class__")))
    (ic_hn : PySem.W.specialIn K (.builtin "object.__class__") "__get__" = some (some (.builtin "getset_descriptor.__get__")))
    (ic_ht : PySem.W.takesIn K (.builtin "object.__class__") = some true)
    (ic_hm : PySem.W.mroIn K C (.type "object") = some true)
    (ic_me : PySem.W.kitOne K (.ref C) (.ref C) = some true)
    (ic_kl : PySem.W.kitOne K (.type "list") (.ref C) = some false)
    (ic_no : PySem.W.subIn K (.ref C) (.type "list") = some false)
    (ic_cd : ∃ cd rest, PySem.W.clsIn K C = some cd ∧ cd.mro = .ref C :: rest)
    (w_a : PySem.W.findIn K (.ref C) "__init__" = some (some (.ref fc)))
    (w_i : PySem.W.isFn K (.ref fc) = true)
    (w_k : PySem.W.keepIn K (.ref fc) = true)
    (w_l : K.lookup fc = some ⟨occ, odc, .func (PySem.W.fnOf "__init__" "Galley.__init__" (defArgs sInit) (defBody sInit) (defScope sInit) (.ref TD) kVc dcc pmc anc cdc ctc), slc⟩)
    (w_c : PySem.W.codeIn K cdc "Galley.__init__" = true)
    (w_T : K.lookup TD = some ⟨.type "tuple", odT, .seq #[.ref d0] nT, slT⟩)
    (w_0 : K.lookup d0 = some ⟨.type "tuple", od0, .seq #[] n0, sl0⟩)
    (a1 : PySem.W.nsIn K mainGlobals "_pieces_of" = some (some (.ref f1)))
    (l1 : K.lookup f1 = some ⟨oc1, od1, .func (PySem.W.fnOf "_pieces_of" "_pieces_of" (defArgs sPieces) (defBody sPieces) (defScope sPieces) .none kV1 dc1 pm1 an1 cd1 ct1), sl1⟩)
    (c1 : PySem.W.codeIn K cd1 "_pieces_of" = true)
    (k1 : PySem.W.keepIn K (.ref f1) = true)
    (a2 : PySem.W.nsIn K mainGlobals "_figures_of" = some (some (.ref f2)))
    (l2 : K.lookup f2 = some ⟨oc2, od2, .func (PySem.W.fnOf "_figures_of" "_figures_of" (defArgs sFigures) (defBody sFigures) (defScope sFigures) .none kV2 dc2 pm2 an2 cd2 ct2), sl2⟩)
    (c2 : PySem.W.codeIn K cd2 "_figures_of" = true)
    (k2 : PySem.W.keepIn K (.ref f2) = true)
    (a3 : PySem.W.nsIn K mainGlobals "_owners_of" = some (some (.ref f3)))
    (l3 : K.lookup f3 = some ⟨oc3, od3, .func (PySem.W.fnOf "_owners_of" "_owners_of" (defArgs sOwners) (defBody sOwners) (defScope sOwners) .none kV3 dc3 pm3 an3 cd3 ct3), sl3⟩)
    (c3 : PySem.W.codeIn K cd3 "_owners_of" = true)
    (k3 : PySem.W.keepIn K (.ref f3) = true)
    (a4 : PySem.W.nsIn K mainGlobals "_check_sizes" = some (some (.ref f4)))
    (l4 : K.lookup f4 = some ⟨oc4, od4, .func (PySem.W.fnOf "_check_sizes" "_check_sizes" (defArgs sSizes) (defBody sSizes) (defScope sSizes) .none kV4 dc4 pm4 an4 cd4 ct4), sl4⟩)
    (c4 : PySem.W.codeIn K cd4 "_check_sizes" = true)
    (k4 : PySem.W.keepIn K (.ref f4) = true)
    (a5 : PySem.W.nsIn K mainGlobals "_law_cell" = some (some (.ref f5)))
    (l5 : K.lookup f5 = some ⟨oc5, od5, .func (PySem.W.fnOf "_law_cell" "_law_cell" (defArgs sCell) (defBody sCell) (defScope sCell) .none kV5 dc5 pm5 an5 cd5 ct5), sl5⟩)
    (c5 : PySem.W.codeIn K cd5 "_law_cell" = true)
    (k5 : PySem.W.keepIn K (.ref f5) = true)
    (a6 : PySem.W.nsIn K mainGlobals "_law_row" = some (some (.ref f6)))
    (l6 : K.lookup f6 = some ⟨oc6, od6, .func (PySem.W.fnOf "_law_row" "_law_row" (defArgs sRow) (defBody sRow) (defScope sRow) .none kV6 dc6 pm6 an6 cd6 ct6), sl6⟩)
    (c6 : PySem.W.codeIn K cd6 "_law_row" = true)
    (k6 : PySem.W.keepIn K (.ref f6) = true)
    (a7 : PySem.W.nsIn K mainGlobals "_law_number" = some (some (.ref f7)))
    (l7 : K.lookup f7 = some ⟨oc7, od7, .func (PySem.W.fnOf "_law_number" "_law_number" (defArgs sNumber) (defBody sNumber) (defScope sNumber) .none kV7 dc7 pm7 an7 cd7 ct7), sl7⟩)
    (c7 : PySem.W.codeIn K cd7 "_law_number" = true)
    (k7 : PySem.W.keepIn K (.ref f7) = true)
    (a8 : PySem.W.nsIn K mainGlobals "_law_same" = some (some (.ref f8)))
    (l8 : K.lookup f8 = some ⟨oc8, od8, .func (PySem.W.fnOf "_law_same" "_law_same" (defArgs sSame) (defBody sSame) (defScope sSame) .none kV8 dc8 pm8 an8 cd8 ct8), sl8⟩)
    (c8 : PySem.W.codeIn K cd8 "_law_same" = true)
    (k8 : PySem.W.keepIn K (.ref f8) = true)
    (a9 : PySem.W.nsIn K mainGlobals "_law_made_piece" = some (some (.ref f9)))
    (l9 : K.lookup f9 = some ⟨oc9, od9, .func (PySem.W.fnOf "_law_made_piece" "_law_made_piece" (defArgs sPiece) (defBody sPiece) (defScope sPiece) .none kV9 dc9 pm9 an9 cd9 ct9), sl9⟩)
    (c9 : PySem.W.codeIn K cd9 "_law_made_piece" = true)
    (k9 : PySem.W.keepIn K (.ref f9) = true)
    (a10 : PySem.W.nsIn K mainGlobals "_law_made_blocks" = some (some (.ref f10)))
    (l10 : K.lookup f10 = some ⟨oc10, od10, .func (PySem.W.fnOf "_law_made_blocks" "_law_made_blocks" (defArgs sBlocks) (defBody sBlocks) (defScope sBlocks) .none kV10 dc10 pm10 an10 cd10 ct10), sl10⟩)
    (c10 : PySem.W.codeIn K cd10 "_law_made_blocks" = true)
    (k10 : PySem.W.keepIn K (.ref f10) = true)
    (a11 : PySem.W.nsIn K mainGlobals "_law_cells_from" = some (some (.ref f11)))
    (l11 : K.lookup f11 = some ⟨oc11, od11, .func (PySem.W.fnOf "_law_cells_from" "_law_cells_from" (defArgs sFrom) (defBody sFrom) (defScope sFrom) .none kV11 dc11 pm11 an11 cd11 ct11), sl11⟩)
    (c11 : PySem.W.codeIn K cd11 "_law_cells_from" = true)
    (k11 : PySem.W.keepIn K (.ref f11) = true)
    (a12 : PySem.W.nsIn K mainGlobals "_law_due" = some (some (.ref f12)))
    (l12 : K.lookup f12 = some ⟨oc12, od12, .func (PySem.W.fnOf "_law_due" "_law_due" (defArgs sDue) (defBody sDue) (defScope sDue) .none kV12 dc12 pm12 an12 cd12 ct12), sl12⟩)
    (c12 : PySem.W.codeIn K cd12 "_law_due" = true)
    (k12 : PySem.W.keepIn K (.ref f12) = true)
    (a13 : PySem.W.nsIn K mainGlobals "_law_refused" = some (some (.ref f13)))
    (l13 : K.lookup f13 = some ⟨oc13, od13, .func (PySem.W.fnOf "_law_refused" "_law_refused" (defArgs sRefused) (defBody sRefused) (defScope sRefused) .none kV13 dc13 pm13 an13 cd13 ct13), sl13⟩)
    (c13 : PySem.W.codeIn K cd13 "_law_refused" = true)
    (k13 : PySem.W.keepIn K (.ref f13) = true)
    (a14 : PySem.W.nsIn K mainGlobals "_law_sum_refused" = some (some (.ref f14)))
    (l14 : K.lookup f14 = some ⟨oc14, od14, .func (PySem.W.fnOf "_law_sum_refused" "_law_sum_refused" (defArgs sSumRef) (defBody sSumRef) (defScope sSumRef) .none kV14 dc14 pm14 an14 cd14 ct14), sl14⟩)
    (c14 : PySem.W.codeIn K cd14 "_law_sum_refused" = true)
    (k14 : PySem.W.keepIn K (.ref f14) = true)
    (a15 : PySem.W.nsIn K mainGlobals "_law_added" = some (some (.ref f15)))
    (l15 : K.lookup f15 = some ⟨oc15, od15, .func (PySem.W.fnOf "_law_added" "_law_added" (defArgs sAdded) (defBody sAdded) (defScope sAdded) .none kV15 dc15 pm15 an15 cd15 ct15), sl15⟩)
    (c15 : PySem.W.codeIn K cd15 "_law_added" = true)
    (k15 : PySem.W.keepIn K (.ref f15) = true)
    (a16 : PySem.W.nsIn K mainGlobals "_law_no_piece" = some (some (.ref f16)))
    (l16 : K.lookup f16 = some ⟨oc16, od16, .func (PySem.W.fnOf "_law_no_piece" "_law_no_piece" (defArgs sNoPiece) (defBody sNoPiece) (defScope sNoPiece) .none kV16 dc16 pm16 an16 cd16 ct16), sl16⟩)
    (c16 : PySem.W.codeIn K cd16 "_law_no_piece" = true)
    (k16 : PySem.W.keepIn K (.ref f16) = true)
    (a17 : PySem.W.nsIn K mainGlobals "_law_equal" = some (some (.ref f17)))
    (l17 : K.lookup f17 = some ⟨oc17, od17, .func (PySem.W.fnOf "_law_equal" "_law_equal" (defArgs sEqual) (defBody sEqual) (defScope sEqual) .none kV17 dc17 pm17 an17 cd17 ct17), sl17⟩)
    (c17 : PySem.W.codeIn K cd17 "_law_equal" = true)
    (k17 : PySem.W.keepIn K (.ref f17) = true)
    (a18 : PySem.W.nsIn K mainGlobals "_law_shows" = some (some (.ref f18)))
    (l18 : K.lookup f18 = some ⟨oc18, od18, .func (PySem.W.fnOf "_law_shows" "_law_shows" (defArgs sShows) (defBody sShows) (defScope sShows) .none kV18 dc18 pm18 an18 cd18 ct18), sl18⟩)
    (c18 : PySem.W.codeIn K cd18 "_law_shows" = true)
    (k18 : PySem.W.keepIn K (.ref f18) = true)
    (a19 : PySem.W.nsIn K mainGlobals "_law_copied" = some (some (.ref f19)))
    (l19 : K.lookup f19 = some ⟨oc19, od19, .func (PySem.W.fnOf "_law_copied" "_law_copied" (defArgs sCopied) (defBody sCopied) (defScope sCopied) .none kV19 dc19 pm19 an19 cd19 ct19), sl19⟩)
    (c19 : PySem.W.codeIn K cd19 "_law_copied" = true)
    (k19 : PySem.W.keepIn K (.ref f19) = true)
    (a20 : PySem.W.nsIn K mainGlobals "_law_next" = some (some (.ref f20)))
    (l20 : K.lookup f20 = some ⟨oc20, od20, .func (PySem.W.fnOf "_law_next" "_law_next" (defArgs sNext) (defBody sNext) (defScope sNext) .none kV20 dc20 pm20 an20 cd20 ct20), sl20⟩)
    (c20 : PySem.W.codeIn K cd20 "_law_next" = true)
    (k20 : PySem.W.keepIn K (.ref f20) = true)
    (a21 : PySem.W.nsIn K mainGlobals "_law_near" = some (some (.ref f21)))
    (l21 : K.lookup f21 = some ⟨oc21, od21, .func (PySem.W.fnOf "_law_near" "_law_near" (defArgs sNear) (defBody sNear) (defScope sNear) .none kV21 dc21 pm21 an21 cd21 ct21), sl21⟩)
    (c21 : PySem.W.codeIn K cd21 "_law_near" = true)
    (k21 : PySem.W.keepIn K (.ref f21) = true)
    (a22 : PySem.W.nsIn K mainGlobals "_law_joins" = some (some (.ref f22)))
    (l22 : K.lookup f22 = some ⟨oc22, od22, .func (PySem.W.fnOf "_law_joins" "_law_joins" (defArgs sJoins) (defBody sJoins) (defScope sJoins) .none kV22 dc22 pm22 an22 cd22 ct22), sl22⟩)
    (c22 : PySem.W.codeIn K cd22 "_law_joins" = true)
    (k22 : PySem.W.keepIn K (.ref f22) = true)
    (a23 : PySem.W.nsIn K mainGlobals "law" = some (some (.ref f23)))
    (l23 : K.lookup f23 = some ⟨oc23, od23, .func (PySem.W.fnOf "law" "law" (defArgs sLaw) (defBody sLaw) (defScope sLaw) .none kV23 dc23 pm23 an23 cd23 ct23), sl23⟩)
    (c23 : PySem.W.codeIn K cd23 "law" = true)
    (k23 : PySem.W.keepIn K (.ref f23) = true)
    (a24 : PySem.W.findIn K (.ref C) "__len__" = some (some (.ref f24)))
    (i24 : PySem.W.isFn K (.ref f24) = true)
    (x24 : PySem.W.typeIn K (.ref f24) = some (.type "function"))
    (l24 : K.lookup f24 = some ⟨oc24, od24, .func (PySem.W.fnOf "__len__" "Galley.__len__" (defArgs sLen) (defBody sLen) (defScope sLen) .none kV24 dc24 pm24 an24 cd24 ct24), sl24⟩)
    (c24 : PySem.W.codeIn K cd24 "Galley.__len__" = true)
    (k24 : PySem.W.keepIn K (.ref f24) = true)
    (a25 : PySem.W.findIn K (.ref C) "__iter__" = some (some (.ref f25)))
    (i25 : PySem.W.isFn K (.ref f25) = true)
    (l25 : K.lookup f25 = some ⟨oc25, od25, .func (PySem.W.fnOf "__iter__" "Galley.__iter__" (defArgs sIter) (defBody sIter) (defScope sIter) .none kV25 dc25 pm25 an25 cd25 ct25), sl25⟩)
    (c25 : PySem.W.codeIn K cd25 "Galley.__iter__" = true)
    (k25 : PySem.W.keepIn K (.ref f25) = true)
    (a26 : PySem.W.findIn K (.ref C) "__eq__" = some (some (.ref f26)))
    (i26 : PySem.W.isFn K (.ref f26) = true)
    (l26 : K.lookup f26 = some ⟨oc26, od26, .func (PySem.W.fnOf "__eq__" "Galley.__eq__" (defArgs sEq) (defBody sEq) (defScope sEq) .none kV26 dc26 pm26 an26 cd26 ct26), sl26⟩)
    (c26 : PySem.W.codeIn K cd26 "Galley.__eq__" = true)
    (k26 : PySem.W.keepIn K (.ref f26) = true)
    (a27 : PySem.W.findIn K (.ref C) "__add__" = some (some (.ref f27)))
    (i27 : PySem.W.isFn K (.ref f27) = true)
    (x27 : PySem.W.typeIn K (.ref f27) = some (.type "function"))
    (l27 : K.lookup f27 = some ⟨oc27, od27, .func (PySem.W.fnOf "__add__" "Galley.__add__" (defArgs sAdd) (defBody sAdd) (defScope sAdd) .none kV27 dc27 pm27 an27 cd27 ct27), sl27⟩)
    (c27 : PySem.W.codeIn K cd27 "Galley.__add__" = true)
    (k27 : PySem.W.keepIn K (.ref f27) = true)
    (a28 : PySem.W.findIn K (.ref C) "__iadd__" = some (some (.ref f28)))
    (i28 : PySem.W.isFn K (.ref f28) = true)
    (x28 : PySem.W.typeIn K (.ref f28) = some (.type "function"))
    (l28 : K.lookup f28 = some ⟨oc28, od28, .func (PySem.W.fnOf "__iadd__" "Galley.__iadd__" (defArgs sIadd) (defBody sIadd) (defScope sIadd) .none kV28 dc28 pm28 an28 cd28 ct28), sl28⟩)
    (c28 : PySem.W.codeIn K cd28 "Galley.__iadd__" = true)
    (k28 : PySem.W.keepIn K (.ref f28) = true)
    (a29 : PySem.W.findIn K (.ref C) "pieces" = some (some (.ref pp29)))
    (pg29 : PySem.W.specialIn K (.ref pp29) "__get__" = some (some (.builtin "property.__get__")))
    (pt29 : PySem.W.takesIn K (.ref pp29) = some true)
    (pr29 : PySem.W.recIn K pp29 "property" = some (.ref f29 :: pl29))
    (l29 : K.lookup f29 = some ⟨oc29, od29, .func (PySem.W.fnOf "pieces" "Galley.pieces" (defArgs sPcs) (defBody sPcs) (defScope sPcs) .none kV29 dc29 pm29 an29 cd29 ct29), sl29⟩)
    (c29 : PySem.W.codeIn K cd29 "Galley.pieces" = true)
    (k29 : PySem.W.keepIn K (.ref f29) = true)
    (a30 : PySem.W.findIn K (.ref C) "figures" = some (some (.ref pp30)))
    (pg30 : PySem.W.specialIn K (.ref pp30) "__get__" = some (some (.builtin "property.__get__")))
    (pt30 : PySem.W.takesIn K (.ref pp30) = some true)
    (pr30 : PySem.W.recIn K pp30 "property" = some (.ref f30 :: pl30))
    (l30 : K.lookup f30 = some ⟨oc30, od30, .func (PySem.W.fnOf "figures" "Galley.figures" (defArgs sFigs) (defBody sFigs) (defScope sFigs) .none kV30 dc30 pm30 an30 cd30 ct30), sl30⟩)
    (c30 : PySem.W.codeIn K cd30 "Galley.figures" = true)
    (k30 : PySem.W.keepIn K (.ref f30) = true)
    (a31 : PySem.W.findIn K (.ref C) "block_at" = some (some (.ref f31)))
    (i31 : PySem.W.isFn K (.ref f31) = true)
    (x31 : PySem.W.typeIn K (.ref f31) = some (.type "function"))
    (l31 : K.lookup f31 = some ⟨oc31, od31, .func (PySem.W.fnOf "block_at" "Galley.block_at" (defArgs sBlock) (defBody sBlock) (defScope sBlock) .none kV31 dc31 pm31 an31 cd31 ct31), sl31⟩)
    (c31 : PySem.W.codeIn K cd31 "Galley.block_at" = true)
    (k31 : PySem.W.keepIn K (.ref f31) = true)
    (a32 : PySem.W.findIn K (.ref CT) "__init__" = some (some (.ref f32)))
    (l32 : K.lookup f32 = some ⟨oc32, od32, .func (PySem.W.fnOf "__init__" "TooLarge.__init__" (defArgs sTooI) (defBody sTooI) (defScope sTooI) .none kV32 dc32 pm32 an32 cd32 ct32), sl32⟩)
    (c32 : PySem.W.codeIn K cd32 "TooLarge.__init__" = true)
    (k32 : PySem.W.keepIn K (.ref f32) = true)
    (t32 : PySem.W.typeIn K (.ref f32) = some (.type "function"))
    (a33 : PySem.W.findIn K (.ref CN) "__init__" = some (some (.ref f33)))
    (l33 : K.lookup f33 = some ⟨oc33, od33, .func (PySem.W.fnOf "__init__" "NoSuchNumber.__init__" (defArgs sNoNI) (defBody sNoNI) (defScope sNoNI) .none kV33 dc33 pm33 an33 cd33 ct33), sl33⟩)
    (c33 : PySem.W.codeIn K cd33 "NoSuchNumber.__init__" = true)
    (k33 : PySem.W.keepIn K (.ref f33) = true)
    (t33 : PySem.W.typeIn K (.ref f33) = some (.type "function"))
    (z0 : PySem.W.nsIn K mainGlobals "len" = some none)
    (z1 : PySem.W.nsIn K mainGlobals "int" = some none)
    (z2 : PySem.W.nsIn K mainGlobals "str" = some none)
    (z3 : PySem.W.nsIn K mainGlobals "bool" = some none)
    (z4 : PySem.W.nsIn K mainGlobals "tuple" = some none)
    (z5 : PySem.W.nsIn K mainGlobals "list" = some none)
    (z6 : PySem.W.nsIn K mainGlobals "range" = some none)
    (z7 : PySem.W.nsIn K mainGlobals "isinstance" = some none)
    (z8 : PySem.W.nsIn K mainGlobals "iter" = some none)
    (z9 : PySem.W.nsIn K mainGlobals "min" = some none)
    (z10 : PySem.W.nsIn K mainGlobals "max" = some none)
    (z11 : PySem.W.nsIn K mainGlobals "enumerate" = some none)
    (z12 : PySem.W.nsIn K mainGlobals "ValueError" = some none)
    (z13 : PySem.W.nsIn K mainGlobals "NotImplemented" = some none) :
    ∃ fd : FuncData, (∀ (s : Shared) (v : Value), BindsTo s fd ⟨[v], []⟩ [("_law_script", v)]) ∧ ∀ base : Heap, K.In base → base.Ns mainGlobals mg → FnOk l.prog w K mg base CX0 9 fa fd ["_law_script"] (spLaw K) := by
  have e := hfa.symm.trans (PySem.W.mg_of X G a23); cases e
  have B : Blt mg := ⟨PySem.W.mg_none_of X G z0, PySem.W.mg_none_of X G z1, PySem.W.mg_none_of X G z2, PySem.W.mg_none_of X G z3, PySem.W.mg_none_of X G z4, PySem.W.mg_none_of X G z5, PySem.W.mg_none_of X G z6, PySem.W.mg_none_of X G z7, PySem.W.mg_none_of X G z8, PySem.W.mg_none_of X G z9, PySem.W.mg_none_of X G z10, PySem.W.mg_none_of X G z11, PySem.W.mg_none_of X G z12, PySem.W.mg_none_of X G z13⟩
  have Z : Cst mg tk0 tk1 := ⟨PySem.W.mg_of X G c_MOST_PIECES, PySem.W.mg_of X G c_MOST_FIGURES⟩
  have F1 := fun_mk (st := sPieces) l1 c1 k1
  have F2 := fun_mk (st := sFigures) l2 c2 k2
  have F3 := fun_mk (st := sOwners) l3 c3 k3
  have F4 := fun_mk (st := sSizes) l4 c4 k4
  have F5 := fun_mk (st := sCell) l5 c5 k5
  have F6 := fun_mk (st := sRow) l6 c6 k6
  have F7 := fun_mk (st := sNumber) l7 c7 k7
  have F8 := fun_mk (st := sSame) l8 c8 k8
  have F9 := fun_mk (st := sPiece) l9 c9 k9
  have F10 := fun_mk (st := sBlocks) l10 c10 k10
  have F11 := fun_mk (st := sFrom) l11 c11 k11
  have F12 := fun_mk (st := sDue) l12 c12 k12
  have F13 := fun_mk (st := sRefused) l13 c13 k13
  have F14 := fun_mk (st := sSumRef) l14 c14 k14
  have F15 := fun_mk (st := sAdded) l15 c15 k15
  have F16 := fun_mk (st := sNoPiece) l16 c16 k16
  have F17 := fun_mk (st := sEqual) l17 c17 k17
  have F18 := fun_mk (st := sShows) l18 c18 k18
  have F19 := fun_mk (st := sCopied) l19 c19 k19
  have F20 := fun_mk (st := sNext) l20 c20 k20
  have F21 := fun_mk (st := sNear) l21 c21 k21
  have F22 := fun_mk (st := sJoins) l22 c22 k22
  have F23 := fun_mk (st := sLaw) l23 c23 k23
  have F24 := fun_mk (st := sLen) l24 c24 k24
  have F25 := fun_mk (st := sIter) l25 c25 k25
  have F26 := fun_mk (st := sEq) l26 c26 k26
  have F27 := fun_mk (st := sAdd) l27 c27 k27
  have F28 := fun_mk (st := sIadd) l28 c28 k28
  have F29 := fun_mk (st := sPcs) l29 c29 k29
  have F30 := fun_mk (st := sFigs) l30 c30 k30
  have F31 := fun_mk (st := sBlock) l31 c31 k31
  have F32 := fun_mk (st := sTooI) l32 c32 k32
  have F33 := fun_mk (st := sNoNI) l33 c33 k33
  have b1 := F1.binds (ps := ["blocks"]) fun _ _ _ _ _ _ us hl => match us, hl with | [_], _ => rfl
  have b2 := F2.binds (ps := ["pieces"]) fun _ _ _ _ _ _ us hl => match us, hl with | [_], _ => rfl
  have b3 := F3.binds (ps := ["blocks"]) fun _ _ _ _ _ _ us hl => match us, hl with | [_], _ => rfl
  have b4 := F4.binds (ps := ["blocks"]) fun _ _ _ _ _ _ us hl => match us, hl with | [_], _ => rfl
  have b5 := F5.binds (ps := ["_law_script", "_law_k"]) fun _ _ _ _ _ _ us hl => match us, hl with | [_, _], _ => rfl
  have b6 := F6.binds (ps := ["_law_cell_here", "_law_limits"]) fun _ _ _ _ _ _ us hl => match us, hl with | [_, _], _ => rfl
  have b7 := F7.binds (ps := ["_law_value"]) fun _ _ _ _ _ _ us hl => match us, hl with | [_], _ => rfl
  have b8 := F8.binds (ps := ["_law_one", "_law_two"]) fun _ _ _ _ _ _ us hl => match us, hl with | [_, _], _ => rfl
  have b9 := F9.binds (ps := ["_law_row_here", "_law_last", "_law_left", "_law_tall"]) fun _ _ _ _ _ _ us hl => match us, hl with | [_, _, _, _], _ => rfl
  have b10 := F10.binds (ps := ["_law_cells", "_law_many", "_law_cap", "_law_wide", "_law_tall"]) fun _ _ _ _ _ _ us hl => match us, hl with | [_, _, _, _, _], _ => rfl
  have b11 := F11.binds (ps := ["_law_script", "_law_at"]) fun _ _ _ _ _ _ us hl => match us, hl with | [_, _], _ => rfl
  have b12 := F12.binds (ps := ["_law_blocks"]) fun _ _ _ _ _ _ us hl => match us, hl with | [_], _ => rfl
  have b13 := F13.binds (ps := ["_law_blocks", "_law_due_here"]) fun _ _ _ _ _ _ us hl => match us, hl with | [_, _], _ => rfl
  have b14 := F14.binds (ps := ["_law_first", "_law_second", "_law_due_here"]) fun _ _ _ _ _ _ us hl => match us, hl with | [_, _, _], _ => rfl
  have b15 := F15.binds (ps := ["_law_first", "_law_second", "_law_due_here"]) fun _ _ _ _ _ _ us hl => match us, hl with | [_, _, _], _ => rfl
  have b16 := F16.binds (ps := ["_law_galley", "_law_at"]) fun _ _ _ _ _ _ us hl => match us, hl with | [_, _], _ => rfl
  have b17 := F17.binds (ps := ["_law_one", "_law_two", "_law_due_here"]) fun _ _ _ _ _ _ us hl => match us, hl with | [_, _, _], _ => rfl
  have b18 := F18.binds (ps := ["_law_galley", "_law_blocks"]) fun _ _ _ _ _ _ us hl => match us, hl with | [_, _], _ => rfl
  have b19 := F19.binds (ps := ["_law_blocks"]) fun _ _ _ _ _ _ us hl => match us, hl with | [_], _ => rfl
  have b20 := F20.binds (ps := ["_law_value"]) fun _ _ _ _ _ _ us hl => match us, hl with | [_], _ => rfl
  have b21 := F21.binds (ps := ["_law_blocks", "_law_at", "_law_k"]) fun _ _ _ _ _ _ us hl => match us, hl with | [_, _, _], _ => rfl
  have b22 := F22.binds (ps := ["_law_one", "_law_two"]) fun _ _ _ _ _ _ us hl => match us, hl with | [_, _], _ => rfl
  have b24 := F24.binds (ps := ["self"]) fun _ _ _ _ _ _ us hl => match us, hl with | [_], _ => rfl
  have b25 := F25.binds (ps := ["self"]) fun _ _ _ _ _ _ us hl => match us, hl with | [_], _ => rfl
  have b26 := F26.binds (ps := ["self", "other"]) fun _ _ _ _ _ _ us hl => match us, hl with | [_, _], _ => rfl
  have b27 := F27.binds (ps := ["self", "other"]) fun _ _ _ _ _ _ us hl => match us, hl with | [_, _], _ => rfl
  have b28 := F28.binds (ps := ["self", "other"]) fun _ _ _ _ _ _ us hl => match us, hl with | [_, _], _ => rfl
  have b29 := F29.binds (ps := ["self"]) fun _ _ _ _ _ _ us hl => match us, hl with | [_], _ => rfl
  have b30 := F30.binds (ps := ["self"]) fun _ _ _ _ _ _ us hl => match us, hl with | [_], _ => rfl
  have b31 := F31.binds (ps := ["self", "piece"]) fun _ _ _ _ _ _ us hl => match us, hl with | [_, _], _ => rfl
  have b32 := F32.binds (ps := ["self", "many"]) fun _ _ _ _ _ _ us hl => match us, hl with | [_, _], _ => rfl
  have b33 := F33.binds (ps := ["self", "number"]) fun _ _ _ _ _ _ us hl => match us, hl with | [_, _], _ => rfl
  have T : Gly K mg C := ⟨⟨pgC, hdC, poC, saC⟩, nC_blocks, nC_pieces, nC_owners, PySem.W.mg_of X G aC, ic_ha, ic_hn, ic_ht, ic_hm, ic_me, ic_kl⟩
  have M : Mk K C fc := ⟨mkC, w_a, w_i, kcC⟩
  have NT : TlE K mg CT f32 _ := ⟨PySem.W.mg_of X G aCT, ⟨⟨nm_CT, q_CT, N_CT, bs_CT, bm_CT, sn_CT, sub_CT, ab_CT, col_CT, dd_CT, m0_CT, m1_CT, m2_CT, m3_CT, m5_CT, x_CT, xb_CT⟩, sa_CT, xe_CT, xt_CT, xk_CT⟩, f_CT_many, a32, t32, F32, b32⟩
  have NN : NnE K mg CN f33 _ := ⟨PySem.W.mg_of X G aCN, ⟨⟨nm_CN, q_CN, N_CN, bs_CN, bm_CN, sn_CN, sub_CN, ab_CN, col_CN, dd_CN, m0_CN, m1_CN, m2_CN, m3_CN, m5_CN, x_CN, xb_CN⟩, sa_CN, xe_CN, xt_CN, xk_CN⟩, f_CN_number, a33, t33, F33, b33⟩
  have ER : Ers K mg CT CN CL := ⟨PySem.W.mg_of X G aCL, PySem.W.mg_of X G aCT, PySem.W.mg_of X G aCN, ⟨hg_CT, hk_CT, xe_CT, hd_CT, ha_CT, hn_CT, ht_CT, hm_CT⟩, f_CT_many, PySem.W.exm_ref xe_CT hd_CT xt_CT ls_CT, kL_CT, kO_CT, ⟨hg_CN, hk_CN, xe_CN, hd_CN, ha_CN, hn_CN, ht_CN, hm_CN⟩, f_CN_number, PySem.W.exm_ref xe_CN hd_CN xt_CN ls_CN, kL_CN, kO_CN⟩
  have D0 : ∀ H, SqT K H d0 [] := fun H => .inr ⟨_, _, _, w_0, rfl, rfl, by show 0 ≤ sizeLine; decide, .nil⟩
  have FC : InitD K d0 fc _ := ⟨⟨occ, odc, .ref TD, kVc, dcc, pmc, anc, cdc, ctc, slc, rfl, w_l, w_c, .inr ⟨(fun z => nomatch z), TD, _, [.ref d0], nT, rfl, w_T, rfl, .cons rfl .nil⟩, .inl rfl⟩, w_k⟩
  exact ⟨PySem.W.fnOf "law" "law" (defArgs sLaw) (defBody sLaw) (defScope sLaw) .none kV23 dc23 pm23 an23 cd23 ct23, fun s v => .of_eq rfl, fun base _ _ =>
    ok_law B Z T M NT NN ER D0 FC ic_cd ic_no F23 F24 b24 ⟨a24, x24⟩ F25 b25 ⟨a25, i25⟩ F26 b26 ⟨a26, i26⟩ F27 b27 ⟨a27, x27⟩ F28 b28 ⟨a28, x28⟩ F29 b29 ⟨a29, pg29, pt29, ⟨_, pr29⟩⟩ F30 b30 ⟨a30, pg30, pt30, ⟨_, pr30⟩⟩ F31 b31 ⟨a31, i31, k31⟩ x31 F1 b1 (PySem.W.mg_of X G a1) F2 b2 (PySem.W.mg_of X G a2) F3 b3 (PySem.W.mg_of X G a3) F4 b4 (PySem.W.mg_of X G a4) F5 b5 (PySem.W.mg_of X G a5) F6 b6 (PySem.W.mg_of X G a6) F7 b7 (PySem.W.mg_of X G a7) F8 b8 (PySem.W.mg_of X G a8) F9 b9 (PySem.W.mg_of X G a9) F10 b10 (PySem.W.mg_of X G a10) F11 b11 (PySem.W.mg_of X G a11) F12 b12 (PySem.W.mg_of X G a12) F13 b13 (PySem.W.mg_of X G a13) F14 b14 (PySem.W.mg_of X G a14) F15 b15 (PySem.W.mg_of X G a15) F16 b16 (PySem.W.mg_of X G a16) F17 b17 (PySem.W.mg_of X G a17) F18 b18 (PySem.W.mg_of X G a18) F19 b19 (PySem.W.mg_of X G a19) F20 b20 (PySem.W.mg_of X G a20) F21 b21 (PySem.W.mg_of X G a21) F22 b22 (PySem.W.mg_of X G a22)⟩
end K34
open PySem PySem.W PyProof.Rows
set_option maxRecDepth 100000 in
set_option maxHeartbeats 0 in
theorem PySem.Challenge.cw_laidforall_k34_galleys_holds : PySem.Challenge.rw_laidforall_k34_galleys.Holds := by
  w_on; o_law; k_head; (case hw => w_witness2)
  k_fill
  refine L2.walk_of (l := PySem.Challenge.rw_laidforall_k34_galleys) (n := 63) (k := 9) (x := "_law_script") (CX := fun _ => L2.CX0) (sp := fun w => K34.spLaw _) rfl (by decide) rfl ⟨rfl, by decide, by decide⟩ (fun w h Y => PySem.W.kIn_of Y) ?F (fun _ _ a ns hl _ hS => ⟨a, ns, rfl, hS, hl, fun _ => rfl⟩) (fun _ _ _ _ _ h => h)
  case F =>
    intro w mg fa h KX G hmg
    refine' K34.all_mk KX G hmg ?zz_c_MOST_PIECES ?zz_c_MOST_FIGURES ?zz_aC ?zz_pgC ?zz_hdC ?zz_poC ?zz_saC ?zz_mkC ?zz_kcC ?zz_nC_blocks ?zz_nC_pieces ?zz_nC_owners ?zz_aCL ?zz_aCT ?zz_x_CT ?zz_xb_CT ?zz_sa_CT ?zz_xe_CT ?zz_xt_CT ?zz_xk_CT ?zz_f_CT_many ?zz_hg_CT ?zz_hk_CT ?zz_hd_CT ?zz_ha_CT ?zz_hn_CT ?zz_ht_CT ?zz_hm_CT ?zz_ls_CT ?zz_aCN ?zz_x_CN ?zz_xb_CN ?zz_sa_CN ?zz_xe_CN ?zz_xt_CN ?zz_xk_CN ?zz_f_CN_number ?zz_hg_CN ?zz_hk_CN ?zz_hd_CN ?zz_ha_CN ?zz_hn_CN ?zz_ht_CN ?zz_hm_CN ?zz_ls_CN ?zz_kL_CT ?zz_kO_CT ?zz_kL_CN ?zz_kO_CN ?zz_ic_ha ?zz_ic_hn ?zz_ic_ht ?zz_ic_hm ?zz_ic_me ?zz_ic_kl ?zz_ic_no ?zz_ic_cd ?zz_w_a ?zz_w_i ?zz_w_k ?zz_w_l ?zz_w_c ?zz_w_T ?zz_w_0 ?zz_a1 ?zz_l1 ?zz_c1 ?zz_k1 ?zz_a2 ?zz_l2 ?zz_c2 ?zz_k2 ?zz_a3 ?zz_l3 ?zz_c3 ?zz_k3 ?zz_a4 ?zz_l4 ?zz_c4 ?zz_k4 ?zz_a5 ?zz_l5 ?zz_c5 ?zz_k5 ?zz_a6 ?zz_l6 ?zz_c6 ?zz_k6 ?zz_a7 ?zz_l7 ?zz_c7 ?zz_k7 ?zz_a8 ?zz_l8 ?zz_c8 ?zz_k8 ?zz_a9 ?zz_l9 ?zz_c9 ?zz_k9 ?zz_a10 ?zz_l10 ?zz_c10 ?zz_k10 ?zz_a11 ?zz_l11 ?zz_c11 ?zz_k11 ?zz_a12 ?zz_l12 ?zz_c12 ?zz_k12 ?zz_a13 ?zz_l13 ?zz_c13 ?zz_k13 ?zz_a14 ?zz_l14 ?zz_c14 ?zz_k14 ?zz_a15 ?zz_l15 ?zz_c15 ?zz_k15 ?zz_a16 ?zz_l16 ?zz_c16 ?zz_k16 ?zz_a17 ?zz_l17 ?zz_c17 ?zz_k17 ?zz_a18 ?zz_l18 ?zz_c18 ?zz_k18 ?zz_a19 ?zz_l19 ?zz_c19 ?zz_k19 ?zz_a20 ?zz_l20 ?zz_c20 ?zz_k20 ?zz_a21 ?zz_l21 ?zz_c21 ?zz_k21 ?zz_a22 ?zz_l22 ?zz_c22 ?zz_k22 ?zz_a23 ?zz_l23 ?zz_c23 ?zz_k23 ?zz_a24 ?zz_i24 ?zz_x24 ?zz_l24 ?zz_c24 ?zz_k24 ?zz_a25 ?zz_i25 ?zz_l25 ?zz_c25 ?zz_k25 ?zz_a26 ?zz_i26 ?zz_l26 ?zz_c26 ?zz_k26 ?zz_a27 ?zz_i27 ?zz_x27 ?zz_l27 ?zz_c27 ?zz_k27 ?zz_a28 ?zz_i28 ?zz_x28 ?zz_l28 ?zz_c28 ?zz_k28 ?zz_a29 ?zz_pg29 ?zz_pt29 ?zz_pr29 ?zz_l29 ?zz_c29 ?zz_k29 ?zz_a30 ?zz_pg30 ?zz_pt30 ?zz_pr30 ?zz_l30 ?zz_c30 ?zz_k30 ?zz_a31 ?zz_i31 ?zz_x31 ?zz_l31 ?zz_c31 ?zz_k31 ?zz_a32 ?zz_l32 ?zz_c32 ?zz_k32 ?zz_t32 ?zz_a33 ?zz_l33 ?zz_c33 ?zz_k33 ?zz_t33 ?zz_z0 ?zz_z1 ?zz_z2 ?zz_z3 ?zz_z4 ?zz_z5 ?zz_z6 ?zz_z7 ?zz_z8 ?zz_z9 ?zz_z10 ?zz_z11 ?zz_z12 ?zz_z13
    (case zz_c_MOST_PIECES => first | k_is | rfl)
    (case zz_c_MOST_FIGURES => first | k_is | rfl)
    (case zz_aC => first | k_is | rfl)
    (case zz_pgC => first | k_is | rfl)
    (case zz_hdC => first | k_is | rfl)
    (case zz_poC => first | k_is | rfl)
    (case zz_saC => first | k_is | rfl)
    (case zz_mkC => first | k_is | rfl)
    (case zz_kcC => first | k_is | rfl)
    (case zz_nC_blocks => first | k_is | rfl)
    (case zz_nC_pieces => first | k_is | rfl)
    (case zz_nC_owners => first | k_is | rfl)
    (case zz_aCL => first | k_is | rfl)
    (case zz_aCT => first | k_is | rfl)
    (case zz_x_CT => first | k_is | rfl)
    (case zz_xb_CT => decide +kernel)
    (case zz_sa_CT => first | k_is | rfl)
    (case zz_xe_CT => first | k_is | rfl)
    (case zz_xt_CT => first | k_is | rfl)
    (case zz_xk_CT => first | k_is | rfl)
    (case zz_f_CT_many => first | k_is | rfl)
    (case zz_hg_CT => first | k_is | rfl)
    (case zz_hk_CT => first | k_is | rfl)
    (case zz_hd_CT => first | k_is | rfl)
    (case zz_ha_CT => first | k_is | rfl)
    (case zz_hn_CT => first | k_is | rfl)
    (case zz_ht_CT => first | k_is | rfl)
    (case zz_hm_CT => first | k_is | rfl)
    (case zz_ls_CT => first | k_is | rfl)
    (case zz_aCN => first | k_is | rfl)
    (case zz_x_CN => first | k_is | rfl)
    (case zz_xb_CN => decide +kernel)
    (case zz_sa_CN => first | k_is | rfl)
    (case zz_xe_CN => first | k_is | rfl)
    (case zz_xt_CN => first | k_is | rfl)
    (case zz_xk_CN => first | k_is | rfl)
    (case zz_f_CN_number => first | k_is | rfl)
    (case zz_hg_CN => first | k_is | rfl)
    (case zz_hk_CN => first | k_is | rfl)
    (case zz_hd_CN => first | k_is | rfl)
    (case zz_ha_CN => first | k_is | rfl)
    (case zz_hn_CN => first | k_is | rfl)
    (case zz_ht_CN => first | k_is | rfl)
    (case zz_hm_CN => first | k_is | rfl)
    (case zz_ls_CN => first | k_is | rfl)
    (case zz_kL_CT => first | k_is | rfl)
    (case zz_kO_CT => first | k_is | rfl)
    (case zz_kL_CN => first | k_is | rfl)
    (case zz_kO_CN => first | k_is | rfl)
    (case zz_ic_ha => first | k_is | rfl)
    (case zz_ic_hn => first | k_is | rfl)
    (case zz_ic_ht => first | k_is | rfl)
    (case zz_ic_hm => first | k_is | rfl)
    (case zz_ic_me => first | k_is | rfl)
    (case zz_ic_kl => first | k_is | rfl)
    (case zz_ic_no => first | k_is | rfl)
    (case zz_ic_cd => exact ⟨_, _, rfl, rfl⟩)
    (case zz_w_a => first | k_is | rfl)
    (case zz_w_i => first | k_is | rfl)
    (case zz_w_k => first | k_is | rfl)
    (case zz_w_l => first | k_is | rfl)
    (case zz_w_c => first | k_is | rfl)
    (case zz_w_T => first | k_is | rfl)
    (case zz_w_0 => first | k_is | rfl)
    (case zz_a1 => first | k_is | rfl)
    (case zz_l1 => first | k_is | rfl)
    (case zz_c1 => first | k_is | rfl)
    (case zz_k1 => first | k_is | rfl)
    (case zz_a2 => first | k_is | rfl)
    (case zz_l2 => first | k_is | rfl)
    (case zz_c2 => first | k_is | rfl)
    (case zz_k2 => first | k_is | rfl)
    (case zz_a3 => first | k_is | rfl)
    (case zz_l3 => first | k_is | rfl)
    (case zz_c3 => first | k_is | rfl)
    (case zz_k3 => first | k_is | rfl)
    (case zz_a4 => first | k_is | rfl)
    (case zz_l4 => first | k_is | rfl)
    (case zz_c4 => first | k_is | rfl)
    (case zz_k4 => first | k_is | rfl)
    (case zz_a5 => first | k_is | rfl)
    (case zz_l5 => first | k_is | rfl)
    (case zz_c5 => first | k_is | rfl)
    (case zz_k5 => first | k_is | rfl)
    (case zz_a6 => first | k_is | rfl)
    (case zz_l6 => first | k_is | rfl)
    (case zz_c6 => first | k_is | rfl)
    (case zz_k6 => first | k_is | rfl)
    (case zz_a7 => first | k_is | rfl)
    (case zz_l7 => first | k_is | rfl)
    (case zz_c7 => first | k_is | rfl)
    (case zz_k7 => first | k_is | rfl)
    (case zz_a8 => first | k_is | rfl)
    (case zz_l8 => first | k_is | rfl)
    (case zz_c8 => first | k_is | rfl)
    (case zz_k8 => first | k_is | rfl)
    (case zz_a9 => first | k_is | rfl)
    (case zz_l9 => first | k_is | rfl)
    (case zz_c9 => first | k_is | rfl)
    (case zz_k9 => first | k_is | rfl)
    (case zz_a10 => first | k_is | rfl)
    (case zz_l10 => first | k_is | rfl)
    (case zz_c10 => first | k_is | rfl)
    (case zz_k10 => first | k_is | rfl)
    (case zz_a11 => first | k_is | rfl)
    (case zz_l11 => first | k_is | rfl)
    (case zz_c11 => first | k_is | rfl)
    (case zz_k11 => first | k_is | rfl)
    (case zz_a12 => first | k_is | rfl)
    (case zz_l12 => first | k_is | rfl)
    (case zz_c12 => first | k_is | rfl)
    (case zz_k12 => first | k_is | rfl)
    (case zz_a13 => first | k_is | rfl)
    (case zz_l13 => first | k_is | rfl)
    (case zz_c13 => first | k_is | rfl)
    (case zz_k13 => first | k_is | rfl)
    (case zz_a14 => first | k_is | rfl)
    (case zz_l14 => first | k_is | rfl)
    (case zz_c14 => first | k_is | rfl)
    (case zz_k14 => first | k_is | rfl)
    (case zz_a15 => first | k_is | rfl)
    (case zz_l15 => first | k_is | rfl)
    (case zz_c15 => first | k_is | rfl)
    (case zz_k15 => first | k_is | rfl)
    (case zz_a16 => first | k_is | rfl)
    (case zz_l16 => first | k_is | rfl)
    (case zz_c16 => first | k_is | rfl)
    (case zz_k16 => first | k_is | rfl)
    (case zz_a17 => first | k_is | rfl)
    (case zz_l17 => first | k_is | rfl)
    (case zz_c17 => first | k_is | rfl)
    (case zz_k17 => first | k_is | rfl)
    (case zz_a18 => first | k_is | rfl)
    (case zz_l18 => first | k_is | rfl)
    (case zz_c18 => first | k_is | rfl)
    (case zz_k18 => first | k_is | rfl)
    (case zz_a19 => first | k_is | rfl)
    (case zz_l19 => first | k_is | rfl)
    (case zz_c19 => first | k_is | rfl)
    (case zz_k19 => first | k_is | rfl)
    (case zz_a20 => first | k_is | rfl)
    (case zz_l20 => first | k_is | rfl)
    (case zz_c20 => first | k_is | rfl)
    (case zz_k20 => first | k_is | rfl)
    (case zz_a21 => first | k_is | rfl)
    (case zz_l21 => first | k_is | rfl)
    (case zz_c21 => first | k_is | rfl)
    (case zz_k21 => first | k_is | rfl)
    (case zz_a22 => first | k_is | rfl)
    (case zz_l22 => first | k_is | rfl)
    (case zz_c22 => first | k_is | rfl)
    (case zz_k22 => first | k_is | rfl)
    (case zz_a23 => first | k_is | rfl)
    (case zz_l23 => first | k_is | rfl)
    (case zz_c23 => first | k_is | rfl)
    (case zz_k23 => first | k_is | rfl)
    (case zz_a24 => first | k_is | rfl)
    (case zz_i24 => first | k_is | rfl)
    (case zz_x24 => first | k_is | rfl)
    (case zz_l24 => first | k_is | rfl)
    (case zz_c24 => first | k_is | rfl)
    (case zz_k24 => first | k_is | rfl)
    (case zz_a25 => first | k_is | rfl)
    (case zz_i25 => first | k_is | rfl)
    (case zz_l25 => first | k_is | rfl)
    (case zz_c25 => first | k_is | rfl)
    (case zz_k25 => first | k_is | rfl)
    (case zz_a26 => first | k_is | rfl)
    (case zz_i26 => first | k_is | rfl)
    (case zz_l26 => first | k_is | rfl)
    (case zz_c26 => first | k_is | rfl)
    (case zz_k26 => first | k_is | rfl)
    (case zz_a27 => first | k_is | rfl)
    (case zz_i27 => first | k_is | rfl)
    (case zz_x27 => first | k_is | rfl)
    (case zz_l27 => first | k_is | rfl)
    (case zz_c27 => first | k_is | rfl)
    (case zz_k27 => first | k_is | rfl)
    (case zz_a28 => first | k_is | rfl)
    (case zz_i28 => first | k_is | rfl)
    (case zz_x28 => first | k_is | rfl)
    (case zz_l28 => first | k_is | rfl)
    (case zz_c28 => first | k_is | rfl)
    (case zz_k28 => first | k_is | rfl)
    (case zz_a29 => first | k_is | rfl)
    (case zz_pg29 => first | k_is | rfl)
    (case zz_pt29 => first | k_is | rfl)
    (case zz_pr29 => first | k_is | rfl)
    (case zz_l29 => first | k_is | rfl)
    (case zz_c29 => first | k_is | rfl)
    (case zz_k29 => first | k_is | rfl)
    (case zz_a30 => first | k_is | rfl)
    (case zz_pg30 => first | k_is | rfl)
    (case zz_pt30 => first | k_is | rfl)
    (case zz_pr30 => first | k_is | rfl)
    (case zz_l30 => first | k_is | rfl)
    (case zz_c30 => first | k_is | rfl)
    (case zz_k30 => first | k_is | rfl)
    (case zz_a31 => first | k_is | rfl)
    (case zz_i31 => first | k_is | rfl)
    (case zz_x31 => first | k_is | rfl)
    (case zz_l31 => first | k_is | rfl)
    (case zz_c31 => first | k_is | rfl)
    (case zz_k31 => first | k_is | rfl)
    (case zz_a32 => first | k_is | rfl)
    (case zz_l32 => first | k_is | rfl)
    (case zz_c32 => first | k_is | rfl)
    (case zz_k32 => first | k_is | rfl)
    (case zz_t32 => first | k_is | rfl)
    (case zz_a33 => first | k_is | rfl)
    (case zz_l33 => first | k_is | rfl)
    (case zz_c33 => first | k_is | rfl)
    (case zz_k33 => first | k_is | rfl)
    (case zz_t33 => first | k_is | rfl)
    (case zz_z0 => first | k_is | rfl)
    (case zz_z1 => first | k_is | rfl)
    (case zz_z2 => first | k_is | rfl)
    (case zz_z3 => first | k_is | rfl)
    (case zz_z4 => first | k_is | rfl)
    (case zz_z5 => first | k_is | rfl)
    (case zz_z6 => first | k_is | rfl)
    (case zz_z7 => first | k_is | rfl)
    (case zz_z8 => first | k_is | rfl)
    (case zz_z9 => first | k_is | rfl)
    (case zz_z10 => first | k_is | rfl)
    (case zz_z11 => first | k_is | rfl)
    (case zz_z12 => first | k_is | rfl)
    (case zz_z13 => first | k_is | rfl)

