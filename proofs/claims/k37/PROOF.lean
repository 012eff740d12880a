import PyProof.Rows.All
import Wide.All
import OpenK.AllK
import Wide.FinOn
import HandS.ForMost
import HandS.OwnIter
import HandS.IterNext
import HandS.IterVal
import HandS.Call
import HandS.ExcOwn
import HandS.Exc
import HandS.Star
import HandS.MakeKw
import PyProof.Rows.CallKw2
import HandS.Dict
import HandS.Iter
import KE.KIsAll
import KE.KTryMore
import HandS.ForExc
import HandS.ExcInit
import HandS.ExcIs
import HandS.ExcField
import HandS.IsInst
import HandS.TupAny
import HandS.Walk
import HandS.NoneIn
import HandS.Evl
import HandS.Words
import HandS.FStr
import HandS.Text
import HandS.StrMore
import HandS.More
import HandS.Deep
import HandS.Codes
import HandS.ExcCtx
import HandS.HotCalls
import HandS.WordsExc
import HandS.Zip
import HandS.Style
import HandS.ListItems
import KE.GoesMore
import KE.GoesZip
import HandS.Comp
import HandS.Zip0
import KE.KDictZip
import HandS.OwnEq
import HandS.SlotsOwn
import HandS.Property
import KE.KCallOwn
import HandS.CallSlots
import HandS.Defaults
import HandS.ClsMeth
import HandS.MakeKwOnly
import PyProof.TupleIter
import PyProof.WalksMore
import HandS.List
import HandS.TupLe
import PySem.Challenge.RW_laidforall_k37_moves
set_option Elab.async false
set_option linter.all false
set_option maxRecDepth 100000
set_option maxHeartbeats 2000000
namespace RO
open PySem PySem.Spec PyProof.Rows L2 ItX
/-! ### a def whose promise knows how large the heap was -/
structure FnN (P : Program) (w : World) (K : PySem.W.Frag) (mg : Str → Option Value) (base : Heap) (CX : CXT) (k : Nat) (f : Addr) (fd : FuncData) (ps : List Str) (sp : Nat → Sp) : Prop where
  len : ∀ n vs H Q E, sp n vs H Q E → vs.length = ps.length
  run : ∀ (A : Around) (outer : List Env) (s : Shared) (H : Hp) (args : Args) (us : List Value) (vs : List V) (Q : VK) (E : XK), Room k A → Env0 P w K mg base A outer s H → BindsTo s fd args (ps.zip us) → Vals vs us → sp s.heap.objs.size vs H Q E →
    codeAny (model P w) A (.call (.ref f) args) (CR CX outer P w H s Q E) s
theorem fn_ofN {CX : CXT} {P : Program} {w : World} {K : PySem.W.Frag} {mg : Str → Option Value} {base : Heap} {k : Nat} {f : Addr} {name qual : Str} {params : Arguments} {body : List Stmt} {scope : Scope} {dV kV doc pm cdv ct oc : Value} {an od : Option Addr}
    {osl : Array (Option Value)} {N ps : List Str} {sp : Nat → Sp} (lk : K.lookup f = some ⟨oc, od, .func (PySem.W.fnOf name qual params body scope dV kV doc pm an cdv ct), osl⟩) (hcd : PySem.W.codeIn K cdv qual = true) (S : FnScope N ps scope)
    (len : ∀ n vs H Q E, sp n vs H Q E → vs.length = ps.length)
    (hbody : ∀ (A : Around) (outer : List Env) (s : Shared) (H : Hp) (vs : List V) (Q : VK) (E : XK), Room k (A.deeper (envOfC qual scope s.heap.objs.size f cdv)) → sp s.heap.objs.size vs H Q E →
      ∃ t, PSs (cxOf CX P w K mg base N qual scope f cdv A outer s H E) body t ∧ t { nx := fun _ H' => Q .non H', rt := Q } (start N vs) H) :
    FnN P w K mg base CX (k + 1) f (PySem.W.fnOf name qual params body scope dV kV doc pm an cdv ct) ps sp := by
  refine ⟨len, fun A outer s H args us vs Q E hr e0 hb r hsp => ?_⟩
  have hl := len _ _ _ _ _ hsp
  have KX : K.In s.heap := e0.mod.kin.keeps fun b o e => (e0.bs b o e).1
  have lim : s.heap.NoLimit := e0.mod.nolimit.keeps fun b o e => (e0.bs b o e).1
  have hkind : ∀ y ∈ ps.zip us, scope.names.lookup y.1 = some .local ∨ (scope.names.lookup y.1 = some .cell ∧ ((cellsFrom (s.heap.objs.size + 1) scope.names []).lookup y.1).isSome = true) := fun ⟨n, v⟩ hy => by
    rcases S.par n (List.of_mem_zip hy).1 with q | q
    · exact .inl q
    · exact .inr ⟨q, PySem.W.cellsFrom_some _ _ _ (.inl q)⟩
  refine codeAny_call_function hr.depth (KX _ _ lk) rfl S.co S.gen rfl (PySem.W.codeRec_of KX hcd) (hb _ _ _ _ ?_)
  refine wpAny_newFunctionEnv_cells S.kind hkind fun env he s1 x => ?_
  subst he
  refine ⟨lim.keeps x.toInCall.keep, codeAny_func ?_⟩
  obtain ⟨t, ht, hq⟩ := hbody A outer s H vs Q E (hr.deeper _) hsp
  have I : Inv (cxOf CX P w K mg base N qual scope f cdv A outer s H E) [] (start N vs) H s1 := inv_start S hr.hd e0 hl r x
  refine wpAny_mono (ht.run [] s1 (start N vs) H _ I hq) (fun fl s' hs => ?_) fun e s' hs => hs
  have fin : ∀ {σ' : L2.St} {H' : Hp} {v : V} {u : Value}, Inv (cxOf CX P w K mg base N qual scope f cdv A outer s H E) [] σ' H' s' → RelV v u → Q v H' → CE outer P w H s Q u s' :=
    fun {σ' H' v u} J rv q => ⟨v, H', J.os, J.bare, J.base, J.hok, rv, q⟩
  cases fl with
  | ret u =>
    obtain ⟨v, σ', H', J, rv, q⟩ := hs
    exact fin J rv q
  | next =>
    obtain ⟨σ', H', J, q⟩ := hs
    exact fin (v := V.non) (u := Value.none) J rfl q
  | brk =>
    obtain ⟨_, _, _, q⟩ := hs
    exact False.elim q
  | cont =>
    obtain ⟨_, _, _, q⟩ := hs
    exact False.elim q
section
variable {P : Program} {w : World} {K : PySem.W.Frag} {mg : Str → Option Value} {base : Heap}
theorem fun_okN {x qual : Str} {st : Stmt} {f : Addr} {fd : FuncData} {N ps : List Str} {k : Nat} {sp : Nat → Sp} (F : Fun K x qual st f fd) (S : FnScope N ps (defScope st)) (len : ∀ n vs H Q E, sp n vs H Q E → vs.length = ps.length)
    (hbody : ∀ (cdv : Value) (A : Around) (outer : List Env) (s : Shared) (H : Hp) (vs : List V) (Q : VK) (E : XK), Room k (A.deeper (envOfC qual (defScope st) s.heap.objs.size f cdv)) → sp s.heap.objs.size vs H Q E →
      ∃ t, PSs (cxOf CX0 P w K mg base N qual (defScope st) f cdv A outer s H E).nox (defBody st) t ∧ t { nx := fun _ H' => Q .non H', rt := Q } (start N vs) H) : FnN P w K mg base CX0 (k + 1) f fd ps sp := by
  obtain ⟨oc, od, kV, doc, pm, an, cdv, ct, osl, rfl, lk, hcd⟩ := F.ex
  refine fn_ofN lk hcd S len fun A outer s H vs Q E hr hsp => ?_
  obtain ⟨t, h, q⟩ := hbody cdv A outer s H vs Q E hr hsp
  exact ⟨t, h.nox, q⟩
end
/-- __iter__ hands back a new iterator over the list in a field -/
def spIt (C : Addr) (fld : Str) (n : Nat) : Sp := fun vs H Q _ => ∃ (p dx l : Addr) (fs : List (Str × V)), vs = [.ref p] ∧ H p = some (.ins C dx fs) ∧ fs.lookup fld = some (.ref l) ∧ (∃ zs, H l = some (.lst zs)) ∧ ∀ it, H it = none → n ≤ it → Q (.ref it) (upd H it (ItO l it 0))
/-- what a class with such an __iter__ has -/
structure ItrC (X : Cx) (C fi : Addr) (fdI : FuncData) (fld : Str) (k : Nat) : Prop where
  it : PySem.W.findIn X.K (.ref C) "__iter__" = some (some (.ref fi))
  itF : PySem.W.isFn X.K (.ref fi) = true
  fn : FnN X.prog X.w X.K X.mg X.base CX0 k fi fdI ["self"] (spIt C fld)
  bi : Binds X.K fdI ["self"] []
section
variable {X : Cx} {pins : List (Addr × Obj)} {σ : L2.St} {H : Hp} {s : Shared} {A1 : Around} {C fi fl p dx l : Addr} {fdI fdL : FuncData} {fld : Str} {k : Nat} {fs : List (Str × V)} {zs : List V}
theorem env_sub (I : Inv X pins σ H s) (sb : Sub X k A1) : Env0 X.prog X.w X.K X.mg X.base A1 X.stack s H := by
  have e := I.env0
  exact ⟨by rw [sb.fr]; exact e.frames, e.mod, e.bs, e.bsz, e.funs, e.frf, e.hok, e.bare⟩
/-- iter(o) -/
theorem own_iter {Q : Value → Shared → Prop} (sb : Sub X k A1) (c : ItrC X C fi fdI fld k) (I : Inv X pins σ H s) (hp : H p = some (.ins C dx fs)) (hf : fs.lookup fld = some (.ref l)) (hl : H l = some (.lst zs))
    (h : ∀ it s', H it = none → s.heap.objs.size ≤ it → s'.heap.IsListIter it l 0 → s'.heap.get? it = some (GNX.itObj l 0) → Inv X pins σ H s' → Q (.ref it) s') : wpAny (model X.prog X.w) A1 (pyIter (.ref p)) Q X.xe s := by
  obtain ⟨mA, J, _⟩ := ins_get I.hok hp
  obtain ⟨od, J, _⟩ := J.look
  obtain ⟨m0, hF⟩ := I.fr
  refine PySem.W.owit_iter hF I.ok.mod.kin J c.it c.itF ?_
  have hsp : spIt C fld s.heap.objs.size [.ref p] H (fun v H' => ∃ it, v = .ref it ∧ H it = none ∧ s.heap.objs.size ≤ it ∧ H' = upd H it (ItO l it 0)) E0 := ⟨p, dx, l, fs, rfl, hp, hf, ⟨zs, hl⟩, fun it h1 h2 => ⟨it, rfl, h1, h2, rfl⟩⟩
  have r2 : Vals [V.ref p] [Value.ref p] := .cons rfl .nil
  refine wpAny_call (codeAny_mono (c.fn.run A1 X.stack s H ⟨[.ref p], []⟩ [.ref p] [.ref p] _ E0 sb.room (env_sub I sb) (by
    have := c.bi s [.ref p] I.kIn rfl
    simpa using this) r2 hsp) fun r s' hq => ?_)
  cases r with
  | error e => exact absurd hq (fun z => z.elim)
  | ok fl =>
    cases fl with
    | next => exact False.elim hq
    | brk => exact False.elim hq
    | cont => exact False.elim hq
    | ret u =>
      obtain ⟨v, H', I', rv, it, rfl, hn, hsz, rfl⟩ := I.after hq
      cases rv
      have eo := itO_get I' upd_same
      have I2 := inv_drop I' (show upd H it (ItO l it 0) it = some (.ext _) from upd_same)
      rw [dropH_upd hn] at I2
      have hT : s'.TypeIs (.ref it) "list_iterator" := ⟨_, eo, rfl⟩
      unfold PySem.W.OwitIt
      exact wpAny_specialOf (name := Str.ofString "__next__") hT slot_listiter_next.lookup (h it s' hn hsz ⟨_, eo, rfl, rfl⟩ eo I2)
/-- len(o) by an own __len__ that only tells -/
theorem own_len {Q : Value → Shared → Prop} {E' : Value → Shared → Prop} {sp : Sp} {m : Nat} (sb : Sub X k A1.in1) (hlen : PySem.W.findIn X.K (.ref C) "__len__" = some (some (.ref fl))) (hf : PySem.W.typeIn X.K (.ref fl) = some (.type "function")) (F : FnOk X.prog X.w X.K X.mg X.base CX0 k fl fdL ["self"] sp) (b : Binds X.K fdL ["self"] [])
    (I : Inv X pins σ H s) (hp : H p = some (.ins C dx fs)) (hm : m ≤ sizeLine) (hsp : sp [.ref p] H (fun v H' => v = .int (m : Int) ∧ H' = H) E0)
    (h : ∀ t s', Inv X pins σ H s' → Q (.int (m : Int) t) s') : wpAny (model X.prog X.w) A1 (call (.builtin "len") [.ref p]) Q E' s := by
  obtain ⟨mA, J, _⟩ := ins_get I.hok hp
  obtain ⟨od, J, _⟩ := J.look
  refine Calls.call_function_entry kind_len plain_len entry_len (args_len1 _) ?_
  unfold Builtin.«len»
  refine wpAny_bind (m := oneArg "len" _) (wpAny_pure ?_)
  have r2 : Vals [V.ref p] [Value.ref p] := .cons rfl .nil
  refine wpAny_bind (m := callSpecial? (.ref p) (PySem.Str.ofString "__len__")) (PySem.W.special_fn I.kIn J hlen hf ?_)
  refine wpAny_call (codeAny_mono (F.run A1.in1 X.stack s H ⟨[.ref p], []⟩ [.ref p] [.ref p] _ E0 sb.room (env_sub I sb) (by
    have := b s [.ref p] I.kIn rfl
    simpa using this) r2 hsp) fun r s' hq => ?_)
  cases r with
  | error e => exact absurd hq (fun z => z.elim)
  | ok fl =>
    cases fl with
    | next => exact False.elim hq
    | brk => exact False.elim hq
    | cont => exact False.elim hq
    | ret u =>
      obtain ⟨v, H', I', rv, rfl, rfl⟩ := I.after hq
      obtain ⟨t, rfl⟩ := rv
      have hs : sizeLine = 16777216 := sizeLine_eq
      refine wpAny_bind (wpAny_holding (wpAny_pure ?_))
      refine wpAny_bind (wpAny_letGo ?_)
      show wpAny _ _ (if ((m : Nat) : Int) < 0 then _ else _) _ _ _
      rw [if_neg (by omega)]
      show wpAny _ _ (if ((m : Nat) : Int) ≥ 2 ^ 63 then _ else _) _ _ _
      rw [if_neg (by omega)]
      exact wpAny_bind (wpAny_mkInt (wpAny_pure ⟨_, rfl, h _ _ (I'.tok _)⟩))
end
section
variable {X : Cx} {C fi fl : Addr} {fdI fdL : FuncData} {fld : Str} {k : Nat}
/-! ### for x in o -/
def iOwnL (C : Addr) (fld : Str) (K : PySem.W.Frag) (te : TE) : TI := fun σ H R => te σ H fun v H1 => ∃ (p dx l : Addr) (fs : List (Str × V)) (zs : List V), v = .ref p ∧ H1 p = some (.ins C dx fs) ∧ fs.lookup fld = some (.ref l) ∧ H1 l = some (.lst zs) ∧ R (Itl K l) H1
theorem pi_ownL {tg e : Expr} {te : TE} (c : ItrC X C fi fdI fld k) (hr : Room k X.A) (he : PE X e te) : PI X tg e (iOwnL C fld X.K te) := by
  refine ⟨fun pins s σ H R I h => ?_⟩
  refine thn (he.run pins s σ H _ I h) fun v s1 ⟨y, H1, I1, ry, p, dx, l, fs, zs, ey, hp, hf, hl, q⟩ => ?_
  subst ey
  cases ry
  refine own_iter (⟨hr, rfl⟩ : Sub X k X.A) c I1 hp hf hl fun it s' hn hsz hli eo I' => ?_
  exact ⟨it, [it], _, _, H1, rfl, I', turn_list l it, hli, fun b hb => by rw [List.mem_singleton.mp hb]; exact I1.fpOk hsz hn, q⟩
/-! ### len(o) -/
theorem call_lenOwn {sp : Sp} (hlen : PySem.W.findIn X.K (.ref C) "__len__" = some (some (.ref fl))) (hf : PySem.W.typeIn X.K (.ref fl) = some (.type "function")) (F : FnOk X.prog X.w X.K X.mg X.base CX0 k fl fdL ["self"] sp) (b : Binds X.K fdL ["self"] []) (hr : Room (k + 1) X.A) :
    CallR X (.builtin "len") (fun xs H Q => ∃ (p dx : Addr) (fs : List (Str × V)) (m : Nat), xs = [.ref p] ∧ H p = some (.ins C dx fs) ∧ m ≤ sizeLine ∧ sp [.ref p] H (fun v H' => v = .int (m : Int) ∧ H' = H) E0 ∧ Q (.int (m : Int)) H) := by
  intro pins s σ H xs us Q I r h
  obtain ⟨p, dx, fs, m, rfl, hp, hm, hsp, q⟩ := h
  obtain ⟨u, rfl, ru⟩ := vals1 r
  obtain rfl : u = Value.ref p := ru
  exact own_len (Sub.in1 (⟨hr, rfl⟩ : Sub X (k + 1) X.A)) hlen hf F b I hp hm hsp fun t s' I' => ⟨.int (m : Int), H, I', ⟨_, rfl⟩, q⟩
end
end RO

set_option maxRecDepth 100000
set_option maxHeartbeats 2000000
namespace RO
open PySem PySem.Spec PyProof.Rows L2 ItX
/-! ### list(o) -/
/-- what a class with an own __iter__ and __len__ has -/
structure LenC (X : Cx) (C fl : Addr) (fdL : FuncData) (sp : Sp) (k : Nat) : Prop where
  at_ : PySem.W.findIn X.K (.ref C) "__len__" = some (some (.ref fl))
  ty : PySem.W.typeIn X.K (.ref fl) = some (.type "function")
  fn : FnOk X.prog X.w X.K X.mg X.base CX0 k fl fdL ["self"] sp
  bi : Binds X.K fdL ["self"] []
section
variable {X : Cx} {pins : List (Addr × Obj)} {σ : L2.St} {H : Hp} {s : Shared} {A1 : Around} {C fi fl p dx l q it : Addr} {fdI fdL : FuncData} {fld : Str} {k : Nat} {fs : List (Str × V)} {zs : List V}
theorem ext_loop {Rs : Result → Shared → Prop} (hh : A1.in1.handled = none) (nql : l ≠ q) (hl : H l = some (.lst zs)) (hsz : zs.length < sizeLine) (hq0 : H q = some (.lst []))
    (hdone : ∀ s, Inv X pins σ (upd H q (.lst zs)) s → Rs (.ok (.ret .none)) s) :
    ∀ (n i : Nat) (s : Shared), n + i = zs.length → Inv X pins σ (upd H q (.lst (zs.take i))) s → s.heap.IsListIter it l i → FpOk X pins H it →
      codeAny (model X.prog X.w) A1 (.builtin "list.extend.loop" ⟨[.ref q, .ref it, .none], []⟩) Rs s := by
  intro n
  induction n with
  | zero =>
    intro i s hi I st fp
    refine codeAny_builtin PySem.F.entry_extend_loop ?_
    rw [Around.under_plainId PySem.F.plain_extend_loop _]
    show wpAny _ A1.in1 (pyNext (.ref it) >>= _) _ _ s
    have hl' : upd H q (.lst (zs.take i)) l = some (.lst zs) := by rw [upd_ne nql]; exact hl
    obtain ⟨its, rv, pl, _⟩ := I.list (SqL.of (K := X.K) hl')
    have hlen := rv.length
    obtain ⟨f0, f1, f2, f3, f4, f5⟩ := fp
    have niq : it ≠ q := fun e => by rw [e, hq0] at f0; cases f0
    have e1 : zs.take i = zs := List.take_of_length_le (by omega)
    refine wpAny_bind (wpAny_pyNext_list_end hh st pl.isList (by simp; omega) fun h' eb => ?_)
    rw [e1] at I
    have I' : Inv X pins σ (upd H q (.lst zs)) { s with heap := h' } := I.turned (t' := s.toks) (fun b o hb e => eb b o hb e) (by rw [upd_ne niq]; exact f0) f1 f3 f4 f5
    exact wpAny_pure (hdone _ I')
  | succ n ih =>
    intro i s hi I st fp
    refine codeAny_builtin PySem.F.entry_extend_loop ?_
    rw [Around.under_plainId PySem.F.plain_extend_loop _]
    show wpAny _ A1.in1 (pyNext (.ref it) >>= _) _ _ s
    have hl' : upd H q (.lst (zs.take i)) l = some (.lst zs) := by rw [upd_ne nql]; exact hl
    obtain ⟨its, rv, pl, _⟩ := I.list (SqL.of (K := X.K) hl')
    have hlen := rv.length
    obtain ⟨f0, f1, f2, f3, f4, f5⟩ := id fp
    have niq : it ≠ q := fun e => by rw [e, hq0] at f0; cases f0
    have hv : zs[i]? = some (zs[i]'(by omega)) := List.getElem?_eq_getElem _
    obtain ⟨u, hu, ru⟩ := rv.get hv
    refine wpAny_bind (wpAny_pyNext_list_item st pl.isList (x := u) (by simpa using hu) fun h' st' sb => ?_)
    have I1 : Inv X pins σ (upd H q (.lst (zs.take i))) { s with heap := h' } := I.turned (t' := s.toks) (fun b o hb e => (sb.2 b hb).trans e) (by rw [upd_ne niq]; exact f0) f1 f3 f4 f5
    show wpAny _ A1.in1 (updateSeq q (·.push u) >>= _) _ _ _
    obtain ⟨z, its2, kk, r2, hl2, e2⟩ := I1.lstM upd_same
    refine wpAny_bind (wpAny_updateSeq e2 rfl (wpAny_pure ⟨plainId_quiet PySem.F.plain_extend_loop _, ?_⟩) (by rw [List.size_toArray, ← hl2, List.length_take]; omega) (by show (its2.toArray.push u).size ≤ sizeLine + 1; rw [Array.size_push, List.size_toArray, ← hl2, List.length_take]; omega))
    have e3 : zs.take (i + 1) = zs.take i ++ [zs[i]'(by omega)] := by rw [List.take_add_one, hv]; rfl
    have I2 := I1.lset (f := (·.push u)) (its' := its2 ++ [u]) (ys := zs.take (i + 1)) (t' := s.toks) upd_same e2 (by simp) (by rw [e3]; exact r2.append (.cons ru .nil)) (by rw [List.length_take]; omega)
    rw [upd_upd] at I2
    refine ih (i + 1) _ (by omega) I2 (st'.at fun o e => ?_) fp
    exact (Heap.get?_update_other _ _ (Ne.symm niq)).trans e
theorem own_extendL {Rs : Result → Shared → Prop} {sp : Sp} {m : Nat} (sb : Sub X (k + 1) A1.in1) (hh : A1.in1.handled = none) (ci : ItrC X C fi fdI fld k) (cl : LenC X C fl fdL sp k) (I : Inv X pins σ H s) (hp : H p = some (.ins C dx fs)) (hf : fs.lookup fld = some (.ref l)) (hl : H l = some (.lst zs)) (hsz : zs.length < sizeLine)
    (hm : m ≤ sizeLine) (hsp : sp [.ref p] H (fun v H' => v = .int (m : Int) ∧ H' = H) E0) (hq : H q = some (.lst [])) (nql : l ≠ q) (hdone : ∀ s, Inv X pins σ (upd H q (.lst zs)) s → Rs (.ok (.ret .none)) s) (herr : ∀ e s, X.xe e s → Rs (.error e) s) :
    wpAny (model X.prog X.w) A1.in1 (Builtin.List.listExtendWith (.ref q) (.ref p) .none)
      (fun fin s' => match fin with | .done f => Rs (.ok f) s' | .again c' => c'.quiet = true ∧ codeAny (model X.prog X.w) A1 c' Rs s') (fun e s' => Rs (.error e) s') s := by
  have hne : q ≠ p := ne_of hq hp (fun z => nomatch z)
  obtain ⟨mA, J, _⟩ := ins_get I.hok hp
  obtain ⟨od, J, _⟩ := J.look
  unfold Builtin.List.listExtendWith
  refine wpAny_bind (J.type.here ?_)
  have h1 : Builtin.List.listSameRef (.ref q) (.ref p) = false := by simp [Builtin.List.listSameRef, hne]
  have h2 : (Value.ref C == Value.type "list") = false := rfl
  have h3 : (Value.ref C == Value.type "tuple") = false := rfl
  simp only [h1, h2, h3, Bool.or_false, Bool.false_eq_true, if_false]
  refine wpAny_bind (wpAny_mono (own_iter (Q := fun v s' => ∃ it, v = .ref it ∧ H it = none ∧ s.heap.objs.size ≤ it ∧ s'.heap.IsListIter it l 0 ∧ s'.heap.get? it = some (GNX.itObj l 0) ∧ Inv X pins σ H s') (sb.mono (Nat.le_succ k)) ci I hp hf hl fun it s' a b c e d => ⟨it, rfl, a, b, c, e, d⟩) (fun v s' hv => ?_) fun e s' he => herr e s' he)
  obtain ⟨it, rfl, hn, hge, st, eo, I'⟩ := hv
  have fp : FpOk X pins H it := I.fpOk hge hn
  have niq : it ≠ q := fun e => by rw [e, hq] at hn; cases hn
  have hint : wpAny (model X.prog X.w) A1.in1 (Builtin.List.listLengthHint (.ref p)) (fun b s2 => Inv X pins σ H s2 ∧ s2.heap.IsListIter it l 0) (fun e s' => Rs (.error e) s') s' := by
    obtain ⟨mA', J', _⟩ := ins_get I'.hok hp
    obtain ⟨od', J', _⟩ := J'.look
    have IP : Inv X ((it, GNX.itObj l 0) :: pins) σ H s' := I'.pins_of fun r hr => by
      rcases List.mem_cons.mp hr with e | hr
      · rw [e]
        exact ⟨eo, hn, fp.2.1, fp.2.2.1, fun v z => by cases z⟩
      · exact I'.pin r (List.mem_append_right _ hr)
    unfold Builtin.List.listLengthHint
    refine wpAny_bind (wpAny_bind (J'.type.here ((PySem.W.looks_findIn I'.kIn cl.at_).here ?_)))
    refine PySem.W.KFB.if_not rfl ?_
    refine PySem.W.KFB.if_so rfl ?_
    refine wpAny_bind (wpAny_rule ?_)
    refine wpAny_bind (wpAny_attempt ?_)
    refine wpAny_mono (own_len (Q := fun v s2 => ∃ t, v = .int (m : Int) t ∧ Inv X ((it, GNX.itObj l 0) :: pins) σ H s2) (E' := fun _ _ => False) (Sub.in1 sb) cl.at_ cl.ty cl.fn cl.bi IP hp hm hsp fun t s2 h => ⟨t, rfl, h⟩) (fun v s2 hv => ?_) (fun e s2 he => he.elim)
    obtain ⟨t, rfl, I2⟩ := hv
    refine wpAny_bind (m := asInt? (.int (m : Int) t)) (wpAny_pure ?_)
    refine PySem.W.KFB.if_not (notLongL (by rw [Int.toNat_natCast]; exact hm)) ?_
    have eo2 := (I2.pin (it, GNX.itObj l 0) (List.mem_append_right _ List.mem_cons_self)).1
    exact wpAny_pure ⟨I2.pins_of fun r hr => I2.pin r (List.mem_append_right _ (List.mem_cons_of_mem _ hr)), _, eo2, rfl, rfl⟩
  refine wpAny_bind (wpAny_holding (wpAny_mono hint (fun room s2 hr => ?_) fun _ _ z => z))
  obtain ⟨I2, st2⟩ := hr
  have hupd : upd H q (.lst (zs.take 0)) = H := by
    funext b
    by_cases hb : b = q
    · rw [hb, upd_same, hq]; rfl
    · rw [upd_ne hb]
  obtain ⟨z, its, k3, r3, hl3, e3⟩ := I2.lstM hq
  cases r3
  refine wpAny_ite_split (fun _ => ?_) (fun _ => wpAny_pure ⟨plainId_quiet PySem.F.plain_extend_loop _, ext_loop hh nql hl hsz hq hdone zs.length 0 s2 rfl (by rw [hupd]; exact I2) st2 fp⟩)
  refine wpAny_bind (wpAny_rule ?_)
  refine wpAny_bind ?_
  show wpAny _ _ (updateSeq q (·.push .none) >>= fun _ => updateSeq q (·.pop)) _ _ _
  refine wpAny_bind (wpAny_updateSeq e3 rfl ?_)
  have I4 := I2.lset (f := (·.push Value.none)) (its' := [Value.none]) (ys := [.non]) (t' := s2.toks) hq e3 (by simp) (.cons rfl .nil) (by rw [List.length_singleton, sizeLine_eq]; decide)
  obtain ⟨z4, its4, k4, r4, hl4, e4⟩ := I4.lstM upd_same
  obtain ⟨u4, rfl, ru4⟩ := r4.one
  refine wpAny_updateSeq e4 rfl ?_ (by show 1 ≤ sizeLine; rw [sizeLine_eq]; decide) (by show 0 ≤ sizeLine + 1; exact Nat.zero_le _)
  have I5 := I4.lset (f := (·.pop)) (its := [u4]) (its' := []) (ys := []) (t' := s2.toks) upd_same e4 (by rfl) .nil (Nat.zero_le _)
  rw [upd_upd] at I5
  refine wpAny_pure ⟨plainId_quiet PySem.F.plain_extend_loop _, ext_loop hh nql hl hsz hq hdone zs.length 0 _ rfl I5 ?_ fp⟩
  exact (st2.at fun o e => (Heap.get?_update_other _ _ (Ne.symm niq)).trans e).at fun o e => (Heap.get?_update_other _ _ (Ne.symm niq)).trans e
/-- list(o): a new list of what the list in the field holds -/
theorem call_listOwnL {sp : Sp} (ci : ItrC X C fi fdI fld k) (cl : LenC X C fl fdL sp k) (hc : X.calm = true) (hr : Room (k + 3) X.A) :
    CallR X (.type "list") (fun xs H Q => ∃ (p dx l : Addr) (fs : List (Str × V)) (zs : List V) (m : Nat), xs = [.ref p] ∧ H p = some (.ins C dx fs) ∧ fs.lookup fld = some (.ref l) ∧ H l = some (.lst zs) ∧ zs.length ≤ 1000 ∧ m ≤ sizeLine ∧
      (∀ H', Same H H' → sp [.ref p] H' (fun v H'' => v = .int (m : Int) ∧ H'' = H') E0) ∧ ∀ q, H q = none → Q (.ref q) (upd H q (.lst zs))) := by
  intro pins s σ H xs us Q I rv h
  obtain ⟨p, dx, l, fs, zs, m, rfl, hp, hf, hl, hz, hm, hsp, hq⟩ := h
  obtain ⟨u, rfl, ru⟩ := rv.one
  cases ru
  have sb : Sub X (k + 1) X.A.in1.in1 := (Sub.in1 (Sub.in1 (⟨hr, rfl⟩ : Sub X (k + 3) X.A)))
  refine callType_codes (Q₁ := fun obj s₁ => obj = .ref s.heap.objs.size ∧ s₁ = { s with heap := s.heap.push { cls := .type "list", data := .seq #[] } }) PySem.F.called_list (PySem.F.typeCall_list_1 _) PySem.F.entry_list_init
    (code_list_new _ ⟨rfl, rfl⟩) fun obj s₁ h₁ => ?_
  obtain ⟨rfl, rfl⟩ := h₁
  have hS : (s.heap.push { cls := .type "list", data := .seq #[] }).get? s.heap.objs.size = some { cls := .type "list", data := .seq #[] } := Heap.get?_push_size _ rfl
  refine ⟨⟨_, hS, rfl⟩, PySem.F.args_list_init_2 _ _, ?_⟩
  have fr : H s.heap.objs.size = none := I.hok.fresh (Nat.le_refl _)
  have hq' := hq _ fr
  have I1 : Inv X pins σ (upd H s.heap.objs.size (.lst [])) { s with heap := s.heap.push { cls := .type "list", data := .seq #[] } } := I.lnew (its := []) (t' := s.toks) .nil (Nat.zero_le _)
  show wpAny _ _ (do let old ← Builtin.List.listItems (.ref s.heap.objs.size); Builtin.List.listUpdate (.ref s.heap.objs.size) (fun _ => #[]); letGo old.toList.reverse; Builtin.List.listExtendWith (.ref s.heap.objs.size) (.ref p) .none) _ _ _
  refine wpAny_bind ?_
  unfold Builtin.List.listItems
  refine wpAny_bind (wpAny_seqItems hS rfl (wpAny_pure ?_))
  show wpAny _ _ (updateSeq s.heap.objs.size (fun _ => #[]) >>= fun _ => letGo (#[] : Array Value).toList.reverse >>= fun _ => Builtin.List.listExtendWith (.ref s.heap.objs.size) (.ref p) .none) _ _ _
  refine wpAny_bind (wpAny_updateSeq hS rfl ?_)
  have I2 := I1.lset (f := fun _ => #[]) (its := []) (its' := []) (ys := []) (t' := s.toks) upd_same hS rfl .nil (Nat.zero_le _)
  rw [upd_upd] at I2
  refine wpAny_bind (wpAny_letGo ?_)
  have sH : Same H (upd H s.heap.objs.size (.lst [])) := fun b x e => by rw [upd_ne (ne_of_none e fr)]; exact e
  have nql : l ≠ s.heap.objs.size := ne_of_none hl fr
  refine own_extendL (A1 := X.A.in1) (Rs := wants (fun r s₂ => r = .none ∧ EP X pins σ Q (.ref s.heap.objs.size) s₂) X.xe) sb (I.ok.hd hc) ci cl I2 (sH _ _ hp) hf (sH _ _ hl) (Nat.lt_of_le_of_lt hz (by decide)) hm (hsp _ sH) upd_same nql
    (fun s' I' => ⟨rfl, .ref s.heap.objs.size, _, I', rfl, by rw [upd_upd]; exact hq'⟩) (fun e s' he => he)
end
end RO

set_option maxRecDepth 100000
set_option maxHeartbeats 2000000
namespace R6
open PySem PySem.Spec PyProof.Rows L2
/-! ### an own class made inside a try: __init__ may raise -/
section
variable {X : Cx} {CX : CXT} {k : Nat} {f C : Addr} {fd : FuncData} {ps : List Str} {ds : List Value} {dvs : List V} {sp : Sp} {E : L2.St → XK} {x : Str} {p pos : Pos} {e : Expr} {es : List Expr} {t : TA}
theorem run_makeS {pins : List (Addr × Obj)} {σ : L2.St} {H : Hp} {s : Shared} {Q : VK} {us : List Value} {vs : List V} (M : Mk X.K C f) (F : FnOk X.prog X.w X.K X.mg X.base CX k f fd ps sp) (hr : Room (k + 1) X.A) (hb : Binds X.K fd ps ds) (hd : Vals dvs ds)
    (hx : PassesAt CX X σ (E σ)) (I : Inv X pins σ H s) (r : Vals vs us)
    (h : ∀ x dx, H x = none → H dx = none → dx ≠ x → sp (.ref x :: (vs ++ dvs)) (upd (upd H dx (.own x)) x (.ins C dx [])) (fun v H2 => v = .non ∧ Q (.ref x) H2) (E σ)) :
    wpAny (model X.prog X.w) X.A (call (.ref C) us) (EP X pins σ Q) X.xe s := by
  have hq := h (s.heap.objs.size + 1) s.heap.objs.size (I.hok.fresh (Nat.le_succ _)) (I.hok.fresh (Nat.le_refl _)) (Nat.ne_of_lt (Nat.lt_succ_self _))
  have I2 := Inv.made (C := C) I
  have r2 : Vals (V.ref (s.heap.objs.size + 1) :: (vs ++ dvs)) (Value.ref (s.heap.objs.size + 1) :: (us ++ ds)) := .cons rfl (r.append hd)
  have hl : (Value.ref (s.heap.objs.size + 1) :: us ++ ds).length = ps.length := by
    have e := r2.length
    rw [F.len _ _ _ _ hq] at e
    exact e.symm
  refine wpAny_call (make_map (f := f) I.kIn M.makes M.init (beq_iff_eq.mp M.fn) (codeAny_mono (F.run _ X.stack _ _ ⟨Value.ref (s.heap.objs.size + 1) :: us, []⟩ (Value.ref (s.heap.objs.size + 1) :: (us ++ ds)) _ _ (E σ) (hr.make C us [])
    (I2.env0.make C us []) (hb _ (Value.ref (s.heap.objs.size + 1) :: us) I2.kIn hl) r2 hq) fun r s' hq' => ?_))
  cases r with
  | error e => exact hx pins _ _ e s' I2 hq'
  | ok fl =>
    cases fl with
    | ret u =>
      obtain ⟨v, H', I3, rv, ev, q3⟩ := I2.after hq'
      subst ev
      exact ⟨rv, ⟨V.ref (s.heap.objs.size + 1), H', I3, rfl, q3⟩⟩
    | next => exact False.elim hq'
    | brk => exact False.elim hq'
    | cont => exact False.elim hq'
def tMakeS (C : Addr) (sp : Sp) (dvs : List V) (E : L2.St → XK) (t : TA) : TE := fun σ H Q => t σ H fun vs H1 => ∀ x dx, H1 x = none → H1 dx = none → dx ≠ x → sp (.ref x :: (vs ++ dvs)) (upd (upd H1 dx (.own x)) x (.ins C dx [])) (fun v H2 => v = .non ∧ Q (.ref x) H2) (E σ)
theorem pe_makeS (M : Mk X.K C f) (F : FnOk X.prog X.w X.K X.mg X.base CX k f fd ps sp) (hr : Room (k + 1) X.A) (hg : Gl X x) (hm : X.mg x = some (.ref C)) (hb : Binds X.K fd ps ds) (hd : Vals dvs ds) (hx : ∀ σ, PassesAt CX X σ (E σ))
    (ha : PA X (e :: es) t) (hdb : (x == ("__debug__" : Str)) = false := by decide) (he : starEach (e :: es) X.env = (false, eval e X.env) :: starEach es X.env := by rfl) (hpl : (backTo pos (starEach es X.env)).any (·.1) = false := by rfl) :
    PE X (.Call (.Name x p) (e :: es) [] pos) (tMakeS C sp dvs E t) := by
  refine ⟨fun pins s σ H Q I h => ?_⟩
  refine wpAny_Call_Name_kw (ld_glob I hg hm ?_ hdb)
  refine PySem.W.callWith_K (h₀ := X.base) I.ok.mod.kin M.kp (thn (ha.run pos pins s σ H _ I h) fun us s1 ⟨vs, H1, I1, r, q⟩ => ⟨I1.kIn, ?_⟩) he hpl
  exact run_makeS M F hr hb hd (hx σ) I1 r q
end
end R6

set_option maxRecDepth 100000
set_option maxHeartbeats 4000000
/-! several except clauses, each with the same name behind as -/
namespace RT
open PySem PySem.Spec PyProof.Rows L2
/-- what is wanted behind a suite whose name at i is let go -/
def offD (D : Ends) (i : Nat) : Ends := { nx := fun σ H => D.nx (σ.set i none) H, rt := D.rt, bk := fun σ H => D.bk (σ.set i none) H, ct := fun σ H => D.ct (σ.set i none) H }
abbrev Cl : Type := Value × (Addr → Value → Option Addr → TS)
def wAsM (K : PySem.W.Frag) (i : Nat) (W0 : WX) (D : Ends) : List Cl → WX
  | [] => W0
  | k :: r => fun cls d σ H => ∃ b, PySem.W.exmOne K cls k.1 = some b ∧ (b = true → ∀ a, H a = none → k.2 a cls d (offD D i) (σ.set i (some (.ref a))) H) ∧ (b = false → wAsM K i W0 D r cls d σ H)
inductive AsOk (X : Cx) (n : Str) : List ExceptHandler → List Cl → Prop
  | nil : AsOk X n [] []
  | cons {x : Str} {c : Value} {ts : Addr → Value → Option Addr → TS} {b0 : Stmt} {su : List Stmt} {np p' : Pos} {hs : List ExceptHandler} {l : List Cl} (hc : Names X x c)
      (hsu : ∀ (a : Addr) (oe : Obj) (cls : Value) (d : Option Addr) (pn : List (Addr × Obj)), Zc cls d oe → (∃ vs, oe.data = .fields vs) → PSs (X.suite a ((a, oe) :: pn)) (b0 :: su) (ts a cls d))
      (r : AsOk X n hs l) : AsOk X n (.ExceptHandler (some (.Name x np)) (some n) (b0 :: su) p' :: hs) ((c, ts) :: l)
section
variable {X : Cx} {n : Str} {i : Nat} {body : List Stmt} {h0 : ExceptHandler} {hds : List ExceptHandler} {l : List Cl} {pos : Pos} {tb : WX → TS} {W0 : WX}
/-- caught, on the ground -/
structure Got (X : Cx) (pins : List (Addr × Obj)) (σ : L2.St) (H : Hp) (a : Addr) (B : Heap) (sI s3 : Shared) (cls : Value) (d : Option Addr) : Prop where
  inv : Inv X pins σ H sI
  nb : ∀ b o, sI.heap.get? b = some o → b ∉ frs X.stack → B.get? b = some o
  up : sI.heap.UpToSlots s3.heap
  fl : HandSPX.FlyingZ B (X.env :: X.outer) a (Zc cls d) s3.heap
  na : H a = none
  os : s3.os = sI.os
  ag : AllBare s3.gens
theorem Got.notFrame {pins : List (Addr × Obj)} {σ : L2.St} {H : Hp} {a : Addr} {B : Heap} {sI s3 : Shared} {cls : Value} {d : Option Addr} (g : Got X pins σ H a B sI s3 cls d) (hf : X.env.frame = some X.env.locals) : a ≠ X.env.locals ∧ a ∉ X.fs := by
  obtain ⟨oe, vs, e1, _, e3⟩ := g.fl.there
  have nfr : a ∉ frs (X.env :: X.outer) := fun hm => by
    obtain ⟨_, o, e, hnf⟩ := g.fl.2.2.1.mem hm
    rw [e1] at e; cases e; exact hnf _ e3
  refine ⟨fun z => nfr (List.mem_filterMap.mpr ⟨_, List.mem_cons_self, hf.trans (congrArg some z.symm)⟩), fun hm => ?_⟩
  obtain ⟨e, y1, y2⟩ := List.mem_filterMap.mp hm
  exact nfr (List.mem_filterMap.mpr ⟨e, List.mem_cons_of_mem _ y1, y2⟩)
theorem clauses (hs : X.stack = X.env :: X.outer) (hf : X.env.frame = some X.env.locals) (hN : X.N.Nodup) (hi : X.N[i]? = some n) (hln : X.env.kindOf n = some .local) (tk : Takes X W0) {D : Ends}
    {pins : List (Addr × Obj)} {σ : L2.St} {H : Hp} {a : Addr} {B : Heap} {sI s3 : Shared} {cls : Value} {d : Option Addr} (ok : X.Ok) (g : Got X pins σ H a B sI s3 cls d) :
    ∀ {hl : List ExceptHandler} {cl : List Cl}, AsOk X n hl cl → wAsM X.K i W0 D cl cls d σ H → wpAny (model X.prog X.w) X.A (handleBy (.ref a) X.env hl) (SP X pins D) X.xe s3 := by
  intro hl cl hk
  obtain ⟨nL, nF⟩ := g.notFrame hf
  have I3 : Inv X pins σ H s3 := g.inv.landed g.nb g.fl.1 g.up g.os g.ag
  obtain ⟨o3, v3, x3, z3, d3⟩ := g.fl.there
  have S3 := I3.suite x3 d3 g.na nL nF
  induction hk with
  | nil =>
    intro wv
    refine wpAny_handleBy_nil ?_
    obtain ⟨_, _, _, oe, vs, T, _, _, y1, _, y3, y4, _⟩ := id g.fl
    unfold PySem.passOn
    refine wpAny_bind (wpAny_field y1 y3 y4 ?_)
    rw [if_neg (show ¬ ((Value.ref T == Value.none) = true) by simp), hf]
    refine wpAny_bind (HandSPX.setFlight_upZ g.fl fun h4 hh up => wpAny_throw (tk _ _ ?_))
    exact ⟨a, B, sI, pins, σ, H, cls, d, rfl, g.inv, g.nb, g.up.trans up, .inr (.inr (by rw [hs]; exact hh)), g.na, g.os, g.ag, wv⟩
  | @cons x c ts b0 su np p' hs2 l2 hc hsu r ih =>
    rintro ⟨b, hb, yes, no⟩
    refine wpAny_handleBy_cons (codeAny_handlers_test ?_) (by intro q; cases q)
    have tyE : PySem.W.Looks (model X.prog X.w) s3.heap (typeOf (.ref a)) cls := fun _ _ _ _ k q => wpAny_typeOf_ref (k _ _ x3) (by rw [z3.1]; exact q)
    have exm := PySem.W.exm_one (M := model X.prog X.w) I3.kIn tyE hb
    have nm : ∀ {Q : Value → Shared → Prop} {E : Value → Shared → Prop}, Q c s3 → wpAny (model X.prog X.w) (X.A.mark (some (.ref a))) (eval (.Name x np) X.env) Q E s3 := fun q => by
      obtain ⟨w1, w2, w3 | ⟨w3, w4, w5⟩⟩ := hc
      · exact ld_glob (X := X.suite a ((a, o3) :: (X.pn ++ pins))) S3 w1 w3 q w2
      · exact ld_blt (X := X.suite a ((a, o3) :: (X.pn ++ pins))) S3 w1 w3 w4 q w5 w2
    refine nm (exm.here ?_)
    cases b with
    | false => exact ih (no rfl)
    | true =>
      refine codeAny_handlers_suite_as (HandSPX.lands_againZ g.fl fun h4 fl4 up4 => ?_)
      have I4 : Inv X pins σ H { s3 with heap := h4 } := g.inv.landed g.nb fl4.1 (g.up.trans up4) g.os g.ag
      obtain ⟨o4, v4, x4, z4, d4⟩ := fl4.there
      refine store_ok (X := X.suite a ((a, o4) :: (X.pn ++ pins))) (v := .ref a) (I4.suite x4 d4 g.na nL nF) hN hi (.inl hln) rfl (fun s5 S5 => ?_) (.inr hln)
      refine wpAny_mono ((hsu a o4 cls d (X.pn ++ pins) z4 ⟨_, d4⟩).run [] s5 _ H _ S5 (yes rfl a g.na)) (fun fl s6 sp => ?_) (fun _ _ z => z.elim)
      have off : ∀ {σ' : L2.St} {H' : Hp} {Q : Shared → Prop}, Inv (X.suite a ((a, o4) :: (X.pn ++ pins))) [] σ' H' s6 → (∀ s7, Inv X pins (σ'.set i none) H' s7 → Q s7) →
          wpAny (model X.prog X.w) X.A (do bindName X.env n .none; unbindBehindTheSuite X.env n p') (fun _ s7 => Q s7) X.xe s6 := fun y q => gone_ok (y.unsuite ok) hN hi hln q
      cases fl with
      | next => obtain ⟨_, _, y, q⟩ := sp; exact off y fun _ j => ⟨_, _, j, q⟩
      | brk => obtain ⟨_, _, y, q⟩ := sp; exact off y fun _ j => ⟨_, _, j, q⟩
      | cont => obtain ⟨_, _, y, q⟩ := sp; exact off y fun _ j => ⟨_, _, j, q⟩
      | ret u => obtain ⟨_, _, _, y, rr, q⟩ := sp; exact off y fun _ j => ⟨_, _, _, j, rr, q⟩
theorem ps_try_asM (hs : X.stack = X.env :: X.outer) (hf : X.env.frame = some X.env.locals) (hN : X.N.Nodup) (hi : X.N[i]? = some n) (hln : X.env.kindOf n = some .local) (tk : Takes X W0)
    (hb : ∀ (W : WX) (pn : List (Addr × Obj)) (xe : Value → Shared → Prop), Takes (X.tr pn xe) W → PassesOwn (model X.prog X.w) X.A X.env xe → PSs (X.tr pn xe) body (tb W)) (hh : AsOk X n (h0 :: hds) l) :
    PS X (.Try body (h0 :: hds) [] [] pos) (fun D σ H => tb (wAsM X.K i W0 D l) D σ H) := by
  refine ⟨fun pins s σ H D I h => ?_⟩
  have ok := I.ok
  refine wpAny_Try_except ?_
  have run := (hb (wAsM X.K i W0 D l) (X.pn ++ pins) (fun e s1 => wpAny (model X.prog X.w) X.A (noteFrame e X.env) (fun _ s2 => wpAny (model X.prog X.w) X.A (setFlight e none) (fun _ s3 => wpAny (model X.prog X.w) X.A (handleBy e X.env (h0 :: hds)) (SP X pins D) X.xe s3) X.xe s2) X.xe s1)
    (fun u s' xx => by
      obtain ⟨a, B, sI, pins', σ', H', cls, d, rfl, J, nb, up, sky, na, os, ag, wv⟩ := xx
      have sky' : Sky B (X.env :: X.outer) a (Zc cls d) X.env.locals s'.heap := by rw [← hs]; exact sky
      show wpAny (model X.prog X.w) X.A (noteFrame (.ref a) X.env) _ _ _
      refine Sky.land Zc.steady (ok.frames.trans (congrArg some hs)) hf sky' fun h3 fl3 up3 => ?_
      exact clauses hs hf hN hi hln tk ok (s3 := { s' with heap := h3 }) ⟨J.ofTry ok, nb, up.trans up3, fl3, na, os, ag⟩ hh wv) PassesOwn.looking).run [] s σ H D (I.toTry _) h
  refine wpAny_mono run (fun f s1 sp => ?_) (fun _ _ z => z)
  cases f with
  | next => obtain ⟨_, _, y, q⟩ := sp; exact wpAny_execs_nil ⟨_, _, y.ofTry ok, q⟩
  | brk => obtain ⟨_, _, y, q⟩ := sp; exact ⟨_, _, y.ofTry ok, q⟩
  | cont => obtain ⟨_, _, y, q⟩ := sp; exact ⟨_, _, y.ofTry ok, q⟩
  | ret u => obtain ⟨_, _, _, y, rr, q⟩ := sp; exact ⟨_, _, _, y.ofTry ok, rr, q⟩
end
end RT

set_option maxRecDepth 100000
set_option maxHeartbeats 4000000
/-! own `in`; an own instance called with keywords -/
namespace RI
open PySem PySem.Spec PyProof.Rows L2 PySem.W
section
variable {M : Model} {A : Around} {E : Value → Shared → Prop} {s : Shared} {K : Frag} {a C f : Addr} {ox : Obj} {od : Option Obj}
theorem contains_own {v : Value} {Q : Bool → Shared → Prop} (X : K.In s.heap) (I : InstAt s.heap a ox C od) (hs : findIn K (.ref C) "__contains__" = some (some (.ref f))) (hf : typeIn K (.ref f) = some (.type "function"))
    (h : wpAny M A (call (.ref f) [.ref a, v]) (fun r s' => wpAny M A (truthy r) Q E s') E s) : wpAny M A (contains (.ref a) v) Q E s := by
  unfold contains
  refine wpAny_holding ?_
  rw [show stdlibNamesSay? (.ref a) v = none from rfl]
  have look : Looks M s.heap (specialOf (.ref a) "__contains__") (some (.ref f)) := I.type.andThen (looks_findIn X hs)
  refine wpAny_bind (look.here ?_)
  show wpAny M A (if (some (Value.ref f) == some Value.none) = true then _ else _) Q E s
  rw [if_neg (by simp)]
  refine wpAny_bind ?_
  unfold callSpecialUnlessNone?
  refine wpAny_bind (look.here (wpAny_holding (wpAny_bind ((bind_fn X (.ref a) hf).here ?_))))
  show wpAny M A (if ((Value.ref f) == Value.none) = true then _ else _) _ E s
  rw [if_neg (by simp)]
  refine wpAny_bind ?_
  exact wpAny_mono h (fun r s' z => wpAny_pure z) fun _ _ z => z
end
section
variable {X : Cx} {C f : Addr} {k : Nat} {CX : CXT} {fd : FuncData} {ps : List Str} {sp : Sp} {E : XK}
/-- v in o, o of an own class whose own __contains__ says a bool -/
def rInOwn (C : Addr) (sp : Sp) (E : XK) : R2 := fun x y H Q => ∃ a dx fs, y = .ref a ∧ H a = some (.ins C dx fs) ∧ sp [.ref a, x] H (fun v H' => ∃ r, v = .bl r ∧ Q (.bl r) H') E
theorem op_inOwn (F : FnOk X.prog X.w X.K X.mg X.base CX k f fd ps sp) (hs : findIn X.K (.ref C) "__contains__" = some (some (.ref f))) (hf : typeIn X.K (.ref f) = some (.type "function")) (hb : Binds X.K fd ps []) (hr : Room k X.A) (hx : Passes CX X E) :
    OpR X (compareOp .In) (rInOwn C sp E) := by
  intro pins s σ H x y v u Q I rx ry h
  obtain ⟨a, dx, fs, rfl, ha, hsp⟩ := h
  cases (show u = Value.ref a from ry)
  obtain ⟨mA, J, _⟩ := ins_get I.hok ha
  obtain ⟨od, J, _⟩ := J.look
  have hl := F.len _ _ _ _ hsp
  have r2 : Vals [V.ref a, x] [Value.ref a, v] := .cons rfl (.cons rx .nil)
  show wpAny (model X.prog X.w) X.A (do return .bool (← contains (.ref a) v)) (EP X pins σ Q) X.xe s
  refine wpAny_bind (contains_own I.kIn J hs hf (wpAny_call (codeAny_mono (F.run X.A X.stack s H ⟨[.ref a, v], []⟩ [.ref a, v] [.ref a, x] _ E hr I.env0 (by
    have := hb s [.ref a, v] I.kIn (by simpa using hl)
    simpa using this) r2 hsp) fun r s' hq => ?_)))
  cases r with
  | error e => exact hx pins σ H s e s' I hq
  | ok fl =>
    cases fl with
    | ret w =>
      obtain ⟨z, H', I', rz, r, ez, q⟩ := I.after hq
      subst ez
      cases rz
      exact wpAny_pure (wpAny_pure ⟨.bl r, H', I', rfl, q⟩)
    | next => exact False.elim hq
    | brk => exact False.elim hq
    | cont => exact False.elim hq
/-- o(e, .., k = v, ..) -/
def tCallON (X : Cx) (C : Addr) (n m : Nat) (sp : Sp) (gV : List V → List V → List V) (E : XK) (tf : TE) (t tk : TA) : TE := fun σ H Q => tf σ H fun y H1 => ∃ a, y = V.ref a ∧ t σ H1 fun vs H2 => tk σ H2 fun zs H3 =>
  vs.length = n ∧ zs.length = m ∧ (∃ dx fs, H3 a = some (.ins C dx fs)) ∧ sp (gV (V.ref a :: vs) zs) H3 Q E
theorem pe_callON {n : Nat} {ks : List Str} {fe e : Expr} {es : List Expr} {kws : List Keyword} {pos : Pos} {tf : TE} {t tk : TA} {g : List Value → List Value → List Value} {gV : List V → List V → List V} (hf : PE X fe tf) (c : StX.CallO X.K C f)
    (F : FnOk X.prog X.w X.K X.mg X.base CX k f fd ps sp) (hr : Room k X.A) (hb : KBn X.K fd ps (n + 1) ks g gV) (hx : Passes CX X E) (ha : PA X (e :: es) t) (hkw : PK X kws tk)
    (hall : (backToKw pos (keywordEach kws X.env)).all (·.1.isSome) = true := by rfl) (hks : (backToKw pos (keywordEach kws X.env)).filterMap (·.1) = ks := by rfl)
    (ht : eval (.Call fe (e :: es) kws pos) X.env = (do callWith pos (← eval fe X.env) [] (backTo pos (starEach (e :: es) X.env)) (backToKw pos (keywordEach kws X.env))) := by rfl)
    (he : starEach (e :: es) X.env = (false, eval e X.env) :: starEach es X.env := by rfl)
    (hpl : ((backTo pos (starEach (e :: es) X.env)).any (·.1) || (backToKw pos (keywordEach kws X.env)).any (·.1.isNone)) = false := by rfl) :
    PE X (.Call fe (e :: es) kws pos) (tCallON X C n ks.length sp gV E tf t tk) := by
  refine ⟨fun pins s σ H Q I h => ?_⟩
  rw [ht]
  refine wpAny_bind (thn (hf.run pins s σ H _ I h) fun u s1 hu => ?_)
  obtain ⟨y, H1, I1, ry, a, rfl, q⟩ := hu
  obtain rfl : u = Value.ref a := ry
  unfold callWith
  refine wpAny_bind (wpAny_holding ?_)
  refine evalArgs_kw2 hall (thn (ha.run pos pins s1 σ H1 _ I1 q) fun us s2 h2 => ?_) he
  obtain ⟨vs, H2, I2, r, q2⟩ := h2
  refine thn (hkw.run pos pins s2 σ H2 _ I2 q2) fun ws s3 h3 => ?_
  obtain ⟨zs, H3, I3, rz, l1, l2, ⟨dx, fs, ha3⟩, hsp⟩ := h3
  refine wpAny_bind (wpAny_standAt ?_)
  obtain ⟨mA, O, _⟩ := ins_get I3.hok ha3
  obtain ⟨od, J, _⟩ := O.look
  have keep := kco_keeper (M := model X.prog X.w) J rfl
  simp only [hpl]
  refine wpAny_bind (keep.here ?_)
  have r1 : Vals (V.ref a :: vs) (Value.ref a :: us) := .cons rfl r
  have run : wpAny (model X.prog X.w) X.A (call (.ref a) us (ks.zip ws)) (EP X pins σ Q) X.xe s3 := by
    refine wpAny_call (kco_code I3.kIn J rfl c.at_ c.fn c.fi ?_)
    refine codeAny_mono (F.run X.A X.stack s3 H3 ⟨.ref a :: us, ks.zip ws⟩ (g (.ref a :: us) ws) _ Q E hr I3.env0 (hb.to _ _ ws I3.kIn (by rw [← r1.length, List.length_cons, l1]) (by rw [← rz.length, l2])) (hb.rel r1 rz) hsp) fun r s' hq => ?_
    cases r with
    | error e => exact hx pins σ H3 s3 e s' I3 hq
    | ok fl =>
      cases fl with
      | ret u => exact I3.after hq
      | next => exact False.elim hq
      | brk => exact False.elim hq
      | cont => exact False.elim hq
  rw [hks]
  have go : ∀ {t : Sem Value}, wpAny (model X.prog X.w) X.A t (EP X pins σ Q) X.xe s3 → wpAny (model X.prog X.w) X.A (t >>= fun r => holding [r] point >>= fun _ => pure r) (EP X pins σ Q) X.xe s3 :=
    fun hh => wpAny_bind (wpAny_mono hh (fun _ _ hz => wpAny_bind (wpAny_holding (wpAny_point (wpAny_pure hz)))) fun _ _ z => z)
  exact go (wpAny_operateT run)
end
end RI

set_option maxRecDepth 100000
set_option maxHeartbeats 2000000
/-! list(o) where o's own __iter__ returns iter(d) of a dict in a field -/
namespace RK
open PySem PySem.Spec PyProof.Rows L2 ItX RO
abbrev kitObj (d : Addr) (n ep : Nat) : Obj := { cls := .type "dict_keyiterator", data := .fields #[.ref d, .int (0 : Nat) 0, .int n 0, .int ep 0] }
def KitO (d it n ep : Nat) : HO := .ext fun h => h.get? it = some (kitObj d n ep)
theorem kitO_ok {P : Program} {w : World} {H : Hp} {h : Heap} {d it n ep : Nat} (e : h.get? it = some (kitObj d n ep)) : ObjOk P w H h it (KitO d it n ep) := ⟨e, ⟨_, e⟩, fun h1 h2 q k => k _ q⟩
section
variable {X : Cx}
/-- iter(d) of a locked dict -/
theorem call_iterK : CallR X (.builtin "iter") (fun xs H Q => ∃ (d : Addr) (o : Obj) (kvs : List (Key × V)), xs = [.ref d] ∧ H d = some (.frz o (.dK kvs)) ∧
    ∀ it es ep, o.data = .dict es ep → H it = Option.none → X.s_0.heap.objs.size ≤ it → Q (.ref it) (upd H it (KitO d it kvs.length ep))) := by
  intro pins s σ H xs us Q I r h
  obtain ⟨d, o, kvs, rfl, hd, q⟩ := h
  obtain ⟨u, rfl, ru⟩ := vals1 r
  cases ru
  obtain ⟨hs, hgd, hx, es, ep, vs, hdt, hsz, kv, hm⟩ := I.frzK hd
  refine Calls.call_function_entry (by decide +kernel) (by decide +kernel) PySem.W.kdk_entry_iter (PySem.W.kdk_args_iter _) ?_
  unfold Builtin.«iter»
  refine wpAny_bind (m := someArgs "iter" 1 2 _) (wpAny_of_eq (a := [Value.ref d]) (by first | rfl | kernel_rfl!) ?_)
  show wpAny _ _ (pyIter (.ref d) >>= _) _ _ _
  refine wpAny_bind (iter_keys hs hgd hx hdt ?_)
  refine wpAny_pure ⟨_, rfl, ?_⟩
  have q' := q s.heap.objs.size es ep hdt (I.hok.fresh (Nat.le_refl _)) I.sz
  rw [hsz]
  exact ⟨.ref s.heap.objs.size, _, I.laid (t' := s.toks) (fun b u e => Heap.get?_push_of_some _ e) (Nat.le_refl _) (kitO_ok (Heap.get?_push_size _ rfl)), rfl, q'⟩
end
/-- __iter__ hands back a new iterator over the locked dict in a field -/
def spItK (C : Addr) (fld : Str) (n : Nat) : Sp := fun vs H Q _ => ∃ (p dx d : Addr) (fs : List (Str × V)) (o : Obj) (kvs : List (Key × V)), vs = [.ref p] ∧ H p = some (.ins C dx fs) ∧ fs.lookup fld = some (.ref d) ∧ H d = some (.frz o (.dK kvs)) ∧
  ∀ it es ep, o.data = .dict es ep → H it = none → n ≤ it → Q (.ref it) (upd H it (KitO d it kvs.length ep))
structure ItrK (X : Cx) (C fi : Addr) (fdI : FuncData) (fld : Str) (k : Nat) : Prop where
  it : PySem.W.findIn X.K (.ref C) "__iter__" = some (some (.ref fi))
  itF : PySem.W.isFn X.K (.ref fi) = true
  fn : FnN X.prog X.w X.K X.mg X.base CX0 k fi fdI ["self"] (spItK C fld)
  bi : Binds X.K fdI ["self"] []
section
variable {X : Cx} {pins : List (Addr × Obj)} {σ : L2.St} {H : Hp} {s : Shared} {A1 : Around} {C fi fl p dx d : Addr} {fdI fdL : FuncData} {fld : Str} {k : Nat} {fs : List (Str × V)} {o : Obj} {kvs : List (Key × V)}
/-- iter(o) -/
theorem own_iterK {Q : Value → Shared → Prop} (sb : Sub X k A1) (c : ItrK X C fi fdI fld k) (I : Inv X pins σ H s) (hp : H p = some (.ins C dx fs)) (hf : fs.lookup fld = some (.ref d)) (hd : H d = some (.frz o (.dK kvs)))
    (h : ∀ it es ep s', o.data = .dict es ep → H it = none → s.heap.objs.size ≤ it → s'.heap.get? it = some (kitObj d kvs.length ep) → Inv X pins σ H s' → Q (.ref it) s') : wpAny (model X.prog X.w) A1 (pyIter (.ref p)) Q X.xe s := by
  obtain ⟨mA, J, _⟩ := ins_get I.hok hp
  obtain ⟨od, J, _⟩ := J.look
  obtain ⟨m0, hF⟩ := I.fr
  refine PySem.W.owit_iter hF I.ok.mod.kin J c.it c.itF ?_
  have hsp : spItK C fld s.heap.objs.size [.ref p] H (fun v H' => ∃ it es ep, v = .ref it ∧ o.data = .dict es ep ∧ H it = none ∧ s.heap.objs.size ≤ it ∧ H' = upd H it (KitO d it kvs.length ep)) E0 := ⟨p, dx, d, fs, o, kvs, rfl, hp, hf, hd, fun it es ep h0 h1 h2 => ⟨it, es, ep, rfl, h0, h1, h2, rfl⟩⟩
  have r2 : Vals [V.ref p] [Value.ref p] := .cons rfl .nil
  refine wpAny_call (codeAny_mono (c.fn.run A1 X.stack s H ⟨[.ref p], []⟩ [.ref p] [.ref p] _ E0 sb.room (env_sub I sb) (by
    have := c.bi s [.ref p] I.kIn rfl
    simpa using this) r2 hsp) fun r s' hq => ?_)
  cases r with
  | error e => exact absurd hq (fun z => z.elim)
  | ok fl =>
    cases fl with
    | next => exact False.elim hq
    | brk => exact False.elim hq
    | cont => exact False.elim hq
    | ret u =>
      obtain ⟨v, H', I', rv, it, es, ep, rfl, hdt, hn, hsz, rfl⟩ := I.after hq
      cases rv
      have eo : s'.heap.get? it = some (kitObj d kvs.length ep) := (I'.hok it _ upd_same).1
      have I2 := inv_drop I' (show upd H it (KitO d it kvs.length ep) it = some (.ext _) from upd_same)
      rw [dropH_upd hn] at I2
      have hT : s'.TypeIs (.ref it) "dict_keyiterator" := ⟨_, eo, rfl⟩
      unfold PySem.W.OwitIt
      exact wpAny_specialOf (name := Str.ofString "__next__") hT PySem.F.slot_dict_keyiterator_next.lookup (h it es ep s' hdt hn hsz eo I2)
/-! ### list(o) -/
theorem ext_loopK {q it : Addr} {es : Array DictEntry} {ep : Nat} {Rs : Result → Shared → Prop} (hh : A1.in1.handled = none) (ndq : d ≠ q) (hd : H d = some (.frz o (.dK kvs))) (hdt : o.data = .dict es ep) (hsz : kvs.length < sizeLine) (hq0 : H q = some (.lst []))
    (hdone : ∀ s, Inv X pins σ (upd H q (.lst (kvs.map fun kv => kV kv.1))) s → Rs (.ok (.ret .none)) s) :
    ∀ (n i : Nat) (s : Shared), n + i = kvs.length → Inv X pins σ (upd H q (.lst ((kvs.map fun kv => kV kv.1).take i))) s → s.heap.IsKeyIter it d i kvs.length ep → FpOk X pins H it →
      codeAny (model X.prog X.w) A1 (.builtin "list.extend.loop" ⟨[.ref q, .ref it, .none], []⟩) Rs s := by
  intro n
  induction n with
  | zero =>
    intro i s hi I st fp
    refine codeAny_builtin PySem.F.entry_extend_loop ?_
    rw [Around.under_plainId PySem.F.plain_extend_loop _]
    show wpAny _ A1.in1 (pyNext (.ref it) >>= _) _ _ s
    have hd' : upd H q (.lst ((kvs.map fun kv => kV kv.1).take i)) d = some (.frz o (.dK kvs)) := by rw [upd_ne ndq]; exact hd
    obtain ⟨hs, hgd, hx, es', ep', vs, hdt', hsz', kv, hm⟩ := I.frzK hd'
    obtain ⟨rfl, rfl⟩ := dict_ep hdt hdt'
    obtain ⟨f0, f1, f2, f3, f4, f5⟩ := fp
    have niq : it ≠ q := fun e => by rw [e, hq0] at f0; cases f0
    have e1 : (kvs.map fun kv => kV kv.1).take i = kvs.map fun kv => kV kv.1 := List.take_of_length_le (by rw [List.length_map]; omega)
    refine wpAny_bind (next_key_end hh st hgd hdt hsz' (by omega) fun h' eb => ?_)
    rw [e1] at I
    have I' : Inv X pins σ (upd H q (.lst (kvs.map fun kv => kV kv.1))) { s with heap := h' } := I.turned (t' := s.toks) (fun b o hb e => eb b o hb e) (by rw [upd_ne niq]; exact f0) f1 f3 f4 f5
    exact wpAny_pure (hdone _ I')
  | succ n ih =>
    intro i s hi I st fp
    refine codeAny_builtin PySem.F.entry_extend_loop ?_
    rw [Around.under_plainId PySem.F.plain_extend_loop _]
    show wpAny _ A1.in1 (pyNext (.ref it) >>= _) _ _ s
    have hd' : upd H q (.lst ((kvs.map fun kv => kV kv.1).take i)) d = some (.frz o (.dK kvs)) := by rw [upd_ne ndq]; exact hd
    obtain ⟨hs, hgd, hx, es', ep', vs, hdt', hsz', kv, hm⟩ := I.frzK hd'
    obtain ⟨rfl, rfl⟩ := dict_ep hdt hdt'
    obtain ⟨f0, f1, f2, f3, f4, f5⟩ := id fp
    have niq : it ≠ q := fun e => by rw [e, hq0] at f0; cases f0
    have hil : i < kvs.length := by omega
    obtain ⟨⟨k0, v0⟩, hkv⟩ : ∃ p, kvs[i]? = some p := ⟨kvs[i], List.getElem?_eq_getElem hil⟩
    obtain ⟨u, hu, ru⟩ := kv_get kv hkv
    have hl : kvs.length = vs.length := Paired.length kv
    have st0 := st
    rw [hl] at st0
    refine wpAny_bind (wpAny_pyNext_dict_item st0 hm hu fun key h' hkey st' sb => ?_)
    rw [← hl] at st'
    have I1 : Inv X pins σ (upd H q (.lst ((kvs.map fun kv => kV kv.1).take i))) { s with heap := h' } := I.turned (t' := s.toks) (fun b o hb e => (sb.2 b hb).trans e) (by rw [upd_ne niq]; exact f0) f1 f3 f4 f5
    have ru2 : RelV (kV k0) key := relV_key (show keyIs k0 key = true from hkey)
    show wpAny _ A1.in1 (updateSeq q (·.push key) >>= _) _ _ _
    obtain ⟨z, its2, kk, r2, hl2, e2⟩ := I1.lstM upd_same
    have hlt : ((kvs.map fun kv => kV kv.1).take i).length = i := by rw [List.length_take, List.length_map]; omega
    refine wpAny_bind (wpAny_updateSeq e2 rfl (wpAny_pure ⟨plainId_quiet PySem.F.plain_extend_loop _, ?_⟩) (by rw [List.size_toArray, ← hl2, hlt]; omega) (by show (its2.toArray.push key).size ≤ sizeLine + 1; rw [Array.size_push, List.size_toArray, ← hl2, hlt]; omega))
    have e3 : (kvs.map fun kv => kV kv.1).take (i + 1) = (kvs.map fun kv => kV kv.1).take i ++ [kV k0] := by rw [List.take_add_one, List.getElem?_map, hkv]; rfl
    have I2 := I1.lset (f := (·.push key)) (its' := its2 ++ [key]) (ys := (kvs.map fun kv => kV kv.1).take (i + 1)) (t' := s.toks) upd_same e2 (by simp) (by rw [e3]; exact r2.append (.cons ru2 .nil)) (by rw [List.length_take, List.length_map]; omega)
    rw [upd_upd] at I2
    refine ih (i + 1) _ (by omega) I2 (st'.at fun o e => ?_) fp
    exact (Heap.get?_update_other _ _ (Ne.symm niq)).trans e
theorem own_extendK {q : Addr} {Rs : Result → Shared → Prop} {sp : Sp} {m : Nat} (sb : Sub X (k + 1) A1.in1) (hh : A1.in1.handled = none) (ci : ItrK X C fi fdI fld k) (cl : LenC X C fl fdL sp k) (I : Inv X pins σ H s) (hp : H p = some (.ins C dx fs)) (hf : fs.lookup fld = some (.ref d)) (hd : H d = some (.frz o (.dK kvs))) (hsz : kvs.length < sizeLine)
    (hm : m ≤ sizeLine) (hsp : sp [.ref p] H (fun v H' => v = .int (m : Int) ∧ H' = H) E0) (hq : H q = some (.lst [])) (ndq : d ≠ q) (hdone : ∀ s, Inv X pins σ (upd H q (.lst (kvs.map fun kv => kV kv.1))) s → Rs (.ok (.ret .none)) s) (herr : ∀ e s, X.xe e s → Rs (.error e) s) :
    wpAny (model X.prog X.w) A1.in1 (Builtin.List.listExtendWith (.ref q) (.ref p) .none)
      (fun fin s' => match fin with | .done f => Rs (.ok f) s' | .again c' => c'.quiet = true ∧ codeAny (model X.prog X.w) A1 c' Rs s') (fun e s' => Rs (.error e) s') s := by
  have hne : q ≠ p := ne_of hq hp (fun z => nomatch z)
  obtain ⟨mA, J, _⟩ := ins_get I.hok hp
  obtain ⟨od, J, _⟩ := J.look
  unfold Builtin.List.listExtendWith
  refine wpAny_bind (J.type.here ?_)
  have h1 : Builtin.List.listSameRef (.ref q) (.ref p) = false := by simp [Builtin.List.listSameRef, hne]
  have h2 : (Value.ref C == Value.type "list") = false := rfl
  have h3 : (Value.ref C == Value.type "tuple") = false := rfl
  simp only [h1, h2, h3, Bool.or_false, Bool.false_eq_true, if_false]
  refine wpAny_bind (wpAny_mono (own_iterK (Q := fun v s' => ∃ it es ep, v = .ref it ∧ o.data = .dict es ep ∧ H it = none ∧ s.heap.objs.size ≤ it ∧ s'.heap.get? it = some (kitObj d kvs.length ep) ∧ Inv X pins σ H s') (sb.mono (Nat.le_succ k)) ci I hp hf hd fun it es ep s' z a b c e => ⟨it, es, ep, rfl, z, a, b, c, e⟩) (fun v s' hv => ?_) fun e s' he => herr e s' he)
  obtain ⟨it, es, ep, rfl, hdt, hn, hge, eo, I'⟩ := hv
  have fp : FpOk X pins H it := I.fpOk hge hn
  have niq : it ≠ q := fun e => by rw [e, hq] at hn; cases hn
  have hint : wpAny (model X.prog X.w) A1.in1 (Builtin.List.listLengthHint (.ref p)) (fun b s2 => Inv X pins σ H s2 ∧ s2.heap.IsKeyIter it d 0 kvs.length ep) (fun e s' => Rs (.error e) s') s' := by
    obtain ⟨mA', J', _⟩ := ins_get I'.hok hp
    obtain ⟨od', J', _⟩ := J'.look
    have IP : Inv X ((it, kitObj d kvs.length ep) :: pins) σ H s' := I'.pins_of fun r hr => by
      rcases List.mem_cons.mp hr with e | hr
      · rw [e]
        exact ⟨eo, hn, fp.2.1, fp.2.2.1, fun v z => by cases z⟩
      · exact I'.pin r (List.mem_append_right _ hr)
    unfold Builtin.List.listLengthHint
    refine wpAny_bind (wpAny_bind (J'.type.here ((PySem.W.looks_findIn I'.kIn cl.at_).here ?_)))
    refine PySem.W.KFB.if_not rfl ?_
    refine PySem.W.KFB.if_so rfl ?_
    refine wpAny_bind (wpAny_rule ?_)
    refine wpAny_bind (wpAny_attempt ?_)
    refine wpAny_mono (own_len (Q := fun v s2 => ∃ t, v = .int (m : Int) t ∧ Inv X ((it, kitObj d kvs.length ep) :: pins) σ H s2) (E' := fun _ _ => False) (Sub.in1 sb) cl.at_ cl.ty cl.fn cl.bi IP hp hm hsp fun t s2 h => ⟨t, rfl, h⟩) (fun v s2 hv => ?_) (fun e s2 he => he.elim)
    obtain ⟨t, rfl, I2⟩ := hv
    refine wpAny_bind (m := asInt? (.int (m : Int) t)) (wpAny_pure ?_)
    refine PySem.W.KFB.if_not (notLongL (by rw [Int.toNat_natCast]; exact hm)) ?_
    have eo2 := (I2.pin (it, kitObj d kvs.length ep) (List.mem_append_right _ List.mem_cons_self)).1
    exact wpAny_pure ⟨I2.pins_of fun r hr => I2.pin r (List.mem_append_right _ (List.mem_cons_of_mem _ hr)), _, eo2, rfl, rfl⟩
  refine wpAny_bind (wpAny_holding (wpAny_mono hint (fun room s2 hr => ?_) fun _ _ z => z))
  obtain ⟨I2, st2⟩ := hr
  have hupd : upd H q (.lst ((kvs.map fun kv => kV kv.1).take 0)) = H := by
    funext b
    by_cases hb : b = q
    · rw [hb, upd_same, hq]; rfl
    · rw [upd_ne hb]
  obtain ⟨z, its, k3, r3, hl3, e3⟩ := I2.lstM hq
  cases r3
  refine wpAny_ite_split (fun _ => ?_) (fun _ => wpAny_pure ⟨plainId_quiet PySem.F.plain_extend_loop _, ext_loopK hh ndq hd hdt hsz hq hdone kvs.length 0 s2 rfl (by rw [hupd]; exact I2) st2 fp⟩)
  refine wpAny_bind (wpAny_rule ?_)
  refine wpAny_bind ?_
  show wpAny _ _ (updateSeq q (·.push .none) >>= fun _ => updateSeq q (·.pop)) _ _ _
  refine wpAny_bind (wpAny_updateSeq e3 rfl ?_)
  have I4 := I2.lset (f := (·.push Value.none)) (its' := [Value.none]) (ys := [.non]) (t' := s2.toks) hq e3 (by simp) (.cons rfl .nil) (by rw [List.length_singleton, sizeLine_eq]; decide)
  obtain ⟨z4, its4, k4, r4, hl4, e4⟩ := I4.lstM upd_same
  obtain ⟨u4, rfl, ru4⟩ := r4.one
  refine wpAny_updateSeq e4 rfl ?_ (by show 1 ≤ sizeLine; rw [sizeLine_eq]; decide) (by show 0 ≤ sizeLine + 1; exact Nat.zero_le _)
  have I5 := I4.lset (f := (·.pop)) (its := [u4]) (its' := []) (ys := []) (t' := s2.toks) upd_same e4 (by rfl) .nil (Nat.zero_le _)
  rw [upd_upd] at I5
  refine wpAny_pure ⟨plainId_quiet PySem.F.plain_extend_loop _, ext_loopK hh ndq hd hdt hsz hq hdone kvs.length 0 _ rfl I5 ?_ fp⟩
  exact (st2.at fun o e => (Heap.get?_update_other _ _ (Ne.symm niq)).trans e).at fun o e => (Heap.get?_update_other _ _ (Ne.symm niq)).trans e
/-- list(o): a new list of the keys of the dict in the field -/
theorem call_listOwnK {sp : Sp} (ci : ItrK X C fi fdI fld k) (cl : LenC X C fl fdL sp k) (hc : X.calm = true) (hr : Room (k + 3) X.A) :
    CallR X (.type "list") (fun xs H Q => ∃ (p dx d : Addr) (fs : List (Str × V)) (kvs : List (Key × V)) (m : Nat), xs = [.ref p] ∧ H p = some (.ins C dx fs) ∧ fs.lookup fld = some (.ref d) ∧ H d = some (.dK kvs) ∧ kvs.length ≤ 1000 ∧ m ≤ sizeLine ∧
      (∀ H', H' p = some (.ins C dx fs) → Rd H' d (.dK kvs) → sp [.ref p] H' (fun v H'' => v = .int (m : Int) ∧ H'' = H') E0) ∧ ∀ q, H q = none → Q (.ref q) (upd H q (.lst (kvs.map fun kv => kV kv.1)))) := by
  intro pins s σ H xs us Q I rv h
  obtain ⟨p, dx, d, fs, kvs, m, rfl, hp, hf, hd, hz, hm, hsp, hq⟩ := h
  obtain ⟨u, rfl, ru⟩ := rv.one
  cases ru
  have sb : Sub X (k + 1) X.A.in1.in1 := (Sub.in1 (Sub.in1 (⟨hr, rfl⟩ : Sub X (k + 3) X.A)))
  refine callType_codes (Q₁ := fun obj s₁ => obj = .ref s.heap.objs.size ∧ s₁ = { s with heap := s.heap.push { cls := .type "list", data := .seq #[] } }) PySem.F.called_list (PySem.F.typeCall_list_1 _) PySem.F.entry_list_init
    (code_list_new _ ⟨rfl, rfl⟩) fun obj s₁ h₁ => ?_
  obtain ⟨rfl, rfl⟩ := h₁
  have hS : (s.heap.push { cls := .type "list", data := .seq #[] }).get? s.heap.objs.size = some { cls := .type "list", data := .seq #[] } := Heap.get?_push_size _ rfl
  refine ⟨⟨_, hS, rfl⟩, PySem.F.args_list_init_2 _ _, ?_⟩
  have fr : H s.heap.objs.size = none := I.hok.fresh (Nat.le_refl _)
  have hq' := hq _ fr
  have I1 : Inv X pins σ (upd H s.heap.objs.size (.lst [])) { s with heap := s.heap.push { cls := .type "list", data := .seq #[] } } := I.lnew (its := []) (t' := s.toks) .nil (Nat.zero_le _)
  show wpAny _ _ (do let old ← Builtin.List.listItems (.ref s.heap.objs.size); Builtin.List.listUpdate (.ref s.heap.objs.size) (fun _ => #[]); letGo old.toList.reverse; Builtin.List.listExtendWith (.ref s.heap.objs.size) (.ref p) .none) _ _ _
  refine wpAny_bind ?_
  unfold Builtin.List.listItems
  refine wpAny_bind (wpAny_seqItems hS rfl (wpAny_pure ?_))
  show wpAny _ _ (updateSeq s.heap.objs.size (fun _ => #[]) >>= fun _ => letGo (#[] : Array Value).toList.reverse >>= fun _ => Builtin.List.listExtendWith (.ref s.heap.objs.size) (.ref p) .none) _ _ _
  refine wpAny_bind (wpAny_updateSeq hS rfl ?_)
  have I2 := I1.lset (f := fun _ => #[]) (its := []) (its' := []) (ys := []) (t' := s.toks) upd_same hS rfl .nil (Nat.zero_le _)
  rw [upd_upd] at I2
  refine wpAny_bind (wpAny_letGo ?_)
  have ndq : d ≠ s.heap.objs.size := ne_of_none hd fr
  have hd2 : upd H s.heap.objs.size (.lst []) d = some (.dK kvs) := by rw [upd_ne ndq]; exact hd
  have hp2 : upd H s.heap.objs.size (.lst []) p = some (.ins C dx fs) := by rw [upd_ne (ne_of_none hp fr)]; exact hp
  have npd : p ≠ d := ne_of hp hd (fun z => nomatch z)
  have nf := I2.nofrz hd2 True.intro
  obtain ⟨o, I3⟩ := I2.lock hd2 True.intro
  have hp3 : upd (upd H s.heap.objs.size (.lst [])) d (.frz o (.dK kvs)) p = some (.ins C dx fs) := by rw [upd_ne npd]; exact hp2
  refine own_extendK (q := s.heap.objs.size) (A1 := X.A.in1) (Rs := wants (fun r s₂ => r = .none ∧ EP X pins σ Q (.ref s.heap.objs.size) s₂) X.xe) sb (I.ok.hd hc) ci cl I3 hp3 hf upd_same (Nat.lt_of_le_of_lt hz (by decide)) hm (hsp _ hp3 (.inr ⟨o, upd_same⟩)) (by rw [upd_ne (Ne.symm ndq)]; exact upd_same) ndq
    (fun s' I' => ⟨rfl, .ref s.heap.objs.size, _, I'.unlock (by rw [upd_ne ndq]; exact upd_same) nf, rfl, ?_⟩) (fun e s' he => he)
  have e : upd (upd (upd (upd H s.heap.objs.size (.lst [])) d (.frz o (.dK kvs))) s.heap.objs.size (.lst (kvs.map fun kv => kV kv.1))) d (.dK kvs) = upd H s.heap.objs.size (.lst (kvs.map fun kv => kV kv.1)) := by
    funext b
    by_cases hb : b = d
    · rw [hb, upd_same, upd_ne ndq, hd]
    · rw [upd_ne hb]
      by_cases hb2 : b = s.heap.objs.size
      · rw [hb2, upd_same, upd_same]
      · rw [upd_ne hb2, upd_ne hb, upd_ne hb2, upd_ne hb2]
  rw [e]; exact hq'
end
end RK

set_option maxRecDepth 100000
set_option maxHeartbeats 4000000
namespace K37
open PySem PySem.Spec PyProof.Rows L2 PySem.W PySem.Calls
/-! ### heaps -/
theorem same_new {H : Hp} {p : Addr} {o : HO} (h : H p = none) : Same H (upd H p o) := fun b x e => by
  rw [upd_ne (ne_of_none e h)]; exact e
theorem same_at {H H' : Hp} {o : Addr} {x : HO} (s : Same H H') (h : H o = none) : Same H (upd H' o x) := fun b z e => by
  rw [upd_ne (ne_of_none e h)]; exact s b z e
theorem same_new2 {H H' : Hp} {p : Addr} {o : HO} (s : Same H H') (h : H' p = none) : Same H (upd H' p o) := fun b z e => by
  have e2 := s b z e
  rw [upd_ne (ne_of_none e2 h)]; exact e2
theorem map_snoc (rs : List Int) (r : Int) : rs.map V.int ++ [V.int r] = (rs ++ [r]).map V.int := by rw [List.map_append]; rfl
theorem map_snocS (rs : List Str) (r : Str) : rs.map V.str ++ [V.str r] = (rs ++ [r]).map V.str := by rw [List.map_append]; rfl
/-! ### texts as lists -/
abbrev tl (z : Str) : List Nat := z.cps.toList
theorem tl_len (z : Str) : (tl z).length = z.length := by simp [tl, Str.length]
theorem str_eq {a b : Str} (h : tl a = tl b) : a = b := by
  obtain ⟨x⟩ := a; obtain ⟨y⟩ := b
  show (⟨x⟩ : Str) = ⟨y⟩
  congr 1
  apply Array.toList_inj.mp; simpa [tl] using h
theorem str_of {z : Str} {x : Nat} (h : tl z = [x]) : z = ⟨#[x]⟩ := str_eq h
theorem str_mk (z : Str) : z = ⟨(tl z).toArray⟩ := str_eq rfl
theorem tl_add (a b : Str) : tl (a ++ b) = tl a ++ tl b := by
  show (a.cps ++ b.cps).toList = _
  rw [Array.toList_append]
theorem len_add (a b : Str) : (a ++ b).length = a.length + b.length := by
  show (a.cps ++ b.cps).size = _
  rw [Array.size_append]; rfl
theorem lt_one (x y : Nat) : decide ([x] < [y]) = !decide (y ≤ x) := by
  have e : decide ([x] < [y]) = decide (x < y) := by simp [List.cons_lt_cons_iff]
  rw [e]
  by_cases h : y ≤ x
  · rw [decide_eq_true h, decide_eq_false (by omega)]; rfl
  · rw [decide_eq_false h, decide_eq_true (by omega)]; rfl
theorem eqS (a b : Nat) : decide (V.str ⟨#[a]⟩ = V.str ⟨#[b]⟩) = decide (a = b) := by
  refine decide_eq_decide.mpr ⟨fun h => ?_, fun h => by rw [h]⟩
  injection h with h1
  have h2 := congrArg tl h1
  simpa [tl] using h2
theorem eqT (a b : Str) : decide (V.str a = V.str b) = decide (tl a = tl b) := by
  refine decide_eq_decide.mpr ⟨fun h => ?_, fun h => by rw [str_eq h]⟩
  injection h with h1
  rw [h1]
theorem eqI (a b : Int) : decide (V.int a = V.int b) = decide (a = b) := by
  refine decide_eq_decide.mpr ⟨fun h => ?_, fun h => by rw [h]⟩
  injection h
theorem cut_tl (z : Str) (a b : Nat) : tl (cutS z (some (a : Int)) (some (b : Int))) = ((tl z).drop (min a z.length)).take (min b z.length - min a z.length) := by
  unfold cutS tl
  rw [HT.sIx_nat, HT.sIx_nat]
theorem cut_to (z : Str) (b : Nat) : tl (cutS z none (some (b : Int))) = (tl z).take b := by
  unfold cutS tl
  rw [HT.sIx_none, HT.sIx_nat]
  show (z.cps.toList.drop 0).take (min b z.length - 0) = _
  rw [List.drop_zero, Nat.sub_zero]
  by_cases h : b ≤ z.length
  · rw [Nat.min_eq_left h]
  · rw [Nat.min_eq_right (by omega), List.take_of_length_le (by rw [tl_len]; exact Nat.le_refl _), List.take_of_length_le (by rw [tl_len]; omega)]
theorem cut_from (z : Str) (a : Nat) : tl (cutS z (some (a : Int)) none) = (tl z).drop a := by
  unfold cutS tl
  rw [HT.sIx_none, HT.sIx_nat]
  show (z.cps.toList.drop (min a z.length)).take (z.length - min a z.length) = _
  by_cases h : a ≤ z.length
  · rw [Nat.min_eq_left h, List.take_of_length_le (by rw [List.length_drop, tl_len]; exact Nat.le_refl _)]
  · rw [Nat.min_eq_right (by omega), Nat.sub_self, List.take_zero, List.drop_of_length_le (by rw [tl_len]; omega)]
theorem joinL_flat : ∀ ls : List (List Nat), TL.joinL [] ls = ls.flatten
  | [] => rfl
  | [p] => by simp [TL.joinL]
  | p :: q :: r => by
    have h := joinL_flat (q :: r)
    simp only [TL.joinL, List.nil_append, h, List.flatten_cons]
theorem tl_joined {e : Str} (he : tl e = []) (ys : List Str) : tl (Txt.join e ys) = (ys.map tl).flatten := by
  have h1 : TL.tl (Txt.join e ys) = TL.joinL (TL.tl e) (ys.map TL.tl) := by rw [TL.join_eq, TL.tl_join]
  have h2 : TL.tl e = [] := he
  rw [h2, joinL_flat] at h1
  exact h1
/-- texts of one sign each, joined -/
theorem join_ones (cs : List Nat) : tl (Txt.join (Str.ofString "") (cs.map fun c => (⟨#[c]⟩ : Str))) = cs := by
  rw [tl_joined (by decide +kernel), List.map_map]
  induction cs with
  | nil => rfl
  | cons c cs ih => simp only [List.map_cons, List.flatten_cons, ih]; rfl
theorem sum_ones (cs : List Nat) : ((cs.map fun c => (⟨#[c]⟩ : Str)).map (·.length)).sum = cs.length := by
  induction cs with
  | nil => rfl
  | cons c cs ih => simp only [List.map_cons, List.sum_cons, ih, List.length_cons]; show 1 + _ = _; omega
theorem pick {z : Str} {r : Int} (h0 : 0 ≤ r) (h1 : r < (z.length : Int)) : ∃ c, atI z.cps.toList r = some c ∧ c ∈ tl z := by
  have h2 : r.toNat < z.cps.toList.length := by rw [Array.length_toList]; have : z.length = z.cps.size := rfl; omega
  have h3 : ((r.toNat : Nat) : Int) = r := by omega
  have h4 := atI_nat (List.getElem?_eq_getElem h2)
  rw [h3] at h4
  exact ⟨_, h4, List.getElem_mem h2⟩
theorem cutV_nat (xs : List V) {a b : Nat} (hab : a ≤ b) (hb : b ≤ xs.length) : cutV xs (some (a : Int)) (some (b : Int)) = (xs.drop a).take (b - a) := by
  unfold cutV
  rw [HT.sIx_nat, HT.sIx_nat, Nat.min_eq_left hb, Nat.min_eq_left (Nat.le_trans hab hb)]
def isL (x : Nat) : Bool := decide (97 ≤ x) && decide (x ≤ 122)
def letters : Str := Str.ofString "abcdefghijklmnopqrstuvwxyz"
theorem letters_L : ∀ c ∈ tl letters, isL c = true := by decide +kernel
theorem letters_len : letters.length = 26 := by decide +kernel
/-! the text -/
def topS (i : Nat) : Stmt := PySem.Challenge.pw_laidforall_k37_moves.main.body.getD i (.Pass ⟨0, 0, 0, 0⟩)
abbrev sTooI : Stmt := inClass (topS 3) 0
abbrev sBadI : Stmt := inClass (topS 4) 0
abbrev sNoNI : Stmt := inClass (topS 5) 0
abbrev sGapIn : Stmt := topS 9
abbrev sPrice : Stmt := topS 10
abbrev sSInit : Stmt := inClass (topS 11) 0
abbrev sSFinal : Stmt := inClass (topS 11) 1
abbrev sSCost : Stmt := inClass (topS 11) 2
abbrev sSLines : Stmt := inClass (topS 11) 3
abbrev sSFound : Stmt := inClass (topS 11) 4
abbrev sSLineOf : Stmt := inClass (topS 11) 5
abbrev sSMoves : Stmt := inClass (topS 11) 6
abbrev sSWith : Stmt := inClass (topS 11) 7
abbrev sSOpen : Stmt := inClass (topS 11) 8
abbrev sSFree : Stmt := inClass (topS 11) 9
abbrev sSKeep : Stmt := inClass (topS 11) 10
abbrev sMovesOf : Stmt := topS 14
abbrev sFinalCost : Stmt := topS 15
abbrev sCheck : Stmt := topS 19
abbrev sBInit : Stmt := inClass (topS 20) 1
abbrev sBEq : Stmt := inClass (topS 20) 2
abbrev sPieces : Stmt := topS 24
abbrev sFigures : Stmt := topS 25
abbrev sOwners : Stmt := topS 26
abbrev sSizes : Stmt := topS 27
abbrev sInit : Stmt := inClass (topS 28) 0
abbrev sLen : Stmt := inClass (topS 28) 1
abbrev sIter : Stmt := inClass (topS 28) 2
abbrev sEq : Stmt := inClass (topS 28) 3
abbrev sAdd : Stmt := inClass (topS 28) 4
abbrev sIadd : Stmt := inClass (topS 28) 5
abbrev sPcs : Stmt := inClass (topS 28) 6
abbrev sFigs : Stmt := inClass (topS 28) 7
abbrev sBlock : Stmt := inClass (topS 28) 8
abbrev sCell : Stmt := topS 30
abbrev sRow : Stmt := topS 31
abbrev sSame : Stmt := topS 32
abbrev sPiece : Stmt := topS 33
abbrev sBlocks : Stmt := topS 34
abbrev sMerged : Stmt := topS 35
abbrev sWorld : Stmt := topS 36
abbrev sBookOf : Stmt := topS 37
abbrev sFlat : Stmt := topS 38
abbrev sWidthL : Stmt := topS 39
abbrev sLineCostL : Stmt := topS 40
abbrev sNeed : Stmt := topS 41
abbrev sTurn : Stmt := topS 42
abbrev sLawMoves : Stmt := topS 43
abbrev sLawFinal : Stmt := topS 44
abbrev sLaw : Stmt := topS 45
structure Blt (mg : Str → Option Value) : Prop where
  len : mg "len" = none
  int : mg "int" = none
  str : mg "str" = none
  bool : mg "bool" = none
  tuple : mg "tuple" = none
  list : mg "list" = none
  range : mg "range" = none
  isi : mg "isinstance" = none
  iter : mg "iter" = none
  min : mg "min" = none
  max : mg "max" = none
  sum : mg "sum" = none
  zip : mg "zip" = none
  enumerate : mg "enumerate" = none
  ve : mg "ValueError" = none
  NotImplemented : mg "NotImplemented" = none
section
variable {P : Program} {w : World} {K : PySem.W.Frag} {mg : Str → Option Value} {base : Heap}
/-! ### _law_cell -/
def spCell (K : PySem.W.Frag) : Sp := fun vs H Q _ => ∃ (a : Addr) (ns : List Int) (k : Int), vs = [.ref a, .int k] ∧ SqL K H a (ns.map V.int) ∧ ns.length ≤ 63 ∧ 0 ≤ k ∧ ∀ c, Q (.int c) H
theorem scCell : FnScope ["_law_script", "_law_k"] ["_law_script", "_law_k"] (defScope sCell) := ⟨rfl, rfl, rfl, by decide +kernel, rfl, by decide +kernel, by decide +kernel⟩
theorem ok_cell {f : Addr} {fd : FuncData} (B : Blt mg) (F : Fun K "_law_cell" "_law_cell" sCell f fd) : FnOk P w K mg base CX0 1 f fd ["_law_script", "_law_k"] (spCell K) := by
  refine F.ok scCell (fun vs H Q E h => ?_) (fun cdv A outer s H vs Q E hr h => ?_)
  · obtain ⟨a, ns, k, rfl, _⟩ := h; rfl
  · obtain ⟨a, ns, k, rfl, hS, hlen, h0, q⟩ := h
    refine ⟨_, pss_cons (ps_if (pt_cmpR op_lt (pv 1) (pe_callB call_len (by rfl) B.len PySem.boot_len (pa_cons (pv 0) pa_nil)) (nomark _)) (pss_one (ps_ret (pe_callTy call_int1 (by rfl) B.int (by decide +kernel) (pa_cons (pe_ix ix_list (pv 0) (pv 1) (fun _ _ => rfl)) pa_nil)))) pss_nil)
      (pss_one (ps_ret pe_int)), ?_⟩
    refine ⟨.int k, rfl, .ref a, rfl, .ref a, (ns.map V.int).length, rfl, .inl ⟨_, hS, rfl⟩, k, _, rfl, rfl, _, rfl, ite2 (fun hk => ?_) (fun _ => ?_)⟩
    · have hk' : k < ((ns.map V.int).length : Int) := of_decide_eq_true hk
      rw [List.length_map] at hk'
      have hlt : k.toNat < ns.length := by omega
      exact ⟨.ref a, rfl, .int k, rfl, a, _, k, .int (ns[k.toNat]'hlt), rfl, rfl, hS, at_of (j := k.toNat) (by omega) (by rw [List.getElem?_map]; simp [hlt]), .inl ⟨_, rfl, q _⟩⟩
    · exact q _
/-! ### _law_row -/
theorem map_snoc' (rs : List Int) (r : Int) : rs.map V.int ++ [V.int r] = (rs ++ [r]).map V.int := by rw [List.map_append]; rfl
def RowOf (ls rs : List Int) : Prop := rs.length = ls.length ∧ ∀ (i : Nat) (l : Int), ls[i]? = some l → ∃ r, rs[i]? = some r ∧ 0 ≤ r ∧ r < l
def spRow (K : PySem.W.Frag) : Sp := fun vs H Q _ => ∃ (c : Int) (a : Addr) (ls : List Int), vs = [.int c, .ref a] ∧ SqL K H a (ls.map V.int) ∧ ls.length ≤ 1000 ∧ (∀ l ∈ ls, 0 < l ∧ l < 1000000) ∧
  ∀ H' p rs, Same H H' → H p = none → H' p = some (.lst (rs.map V.int)) → RowOf ls rs → Q (.ref p) H'
theorem scRow : FnScope ["_law_cell_here", "_law_limits", "_law_row_here", "_law_rest", "_law_limit", "_law_k", "_law_mixed"] ["_law_cell_here", "_law_limits"] (defScope sRow) := ⟨rfl, rfl, rfl, by decide +kernel, rfl, by decide +kernel, by decide +kernel⟩
theorem ok_row {f : Addr} {fd : FuncData} (B : Blt mg) (F : Fun K "_law_row" "_law_row" sRow f fd) : FnOk P w K mg base CX0 1 f fd ["_law_cell_here", "_law_limits"] (spRow K) := by
  refine F.ok scRow (fun vs H Q E h => ?_) (fun cdv A outer s H vs Q E hr h => ?_)
  · obtain ⟨c, a, ls, rfl, _⟩ := h; rfl
  · obtain ⟨c, a, ls, rfl, hS, hlen, hpos, q⟩ := h
    refine ⟨_, (pss_cons (ps_set (i := 2) scRow.nd rfl (.inl rfl) (pe_lst pa_nil))
      (pss_cons (ps_if (pt_cmpR op_ge (pv 0) pe_int (nomark _))
      (pss_cons (ps_set (i := 3) scRow.nd rfl (.inl rfl) (pe_op op_sub (pv 0) pe_int))
       (pss_cons (ps_for (PassesOwn.never) rfl (pi_list (pv 1)) (pg_name (i := 4) scRow.nd rfl (.inl rfl))
       (pss_cons (ps_expr (pe_bm PySem.F.plainAttrs_list PySem.F.slot_list_append PySem.F.type_list_append mt_append (pv 2) (pa_cons (pe_op op_modN (pe_callTy call_int1 (by rfl) B.int (by decide +kernel) (pa_cons (pv 3) pa_nil)) (pv 4)) pa_nil)))
        (pss_one (ps_set (i := 3) scRow.nd rfl (.inl rfl) (pe_op op_fdivN (pv 3) (pv 4))))))
       (pss_one (ps_ret (pv 2)))))
      pss_nil)
      (pss_cons (ps_for (PassesOwn.never) rfl (pi_range1 (by rfl) B.range (pa_cons (pe_callB call_len (by rfl) B.len PySem.boot_len (pa_cons (pv 1) pa_nil)) pa_nil)) (pg_name (i := 5) scRow.nd rfl (.inl rfl))
      (pss_cons (ps_set (i := 6) scRow.nd rfl (.inl rfl) (pe_op op_modN (pe_callTy call_int1 (by rfl) B.int (by decide +kernel) (pa_cons (pe_op op_add (pe_op op_add (pe_op op_mul (pv 0) pe_int) (pe_op op_mul (pv 5) pe_int)) pe_int) pa_nil)) pe_int))
       (pss_cons (ps_set (i := 6) scRow.nd rfl (.inl rfl) (pe_op op_modN (pe_callTy call_int1 (by rfl) B.int (by decide +kernel) (pa_cons (pe_op op_add (pe_op op_add (pe_op op_mul (pv 6) (pe_op op_add pe_int (pe_op op_mul pe_int (pv 5)))) (pe_op op_mul (pe_op op_mul (pv 5) (pv 5)) pe_int)) pe_int) pa_nil)) pe_int))
       (pss_one (ps_expr (pe_bm PySem.F.plainAttrs_list PySem.F.slot_list_append PySem.F.type_list_append mt_append (pv 2) (pa_cons (pe_op op_modN (pe_callTy call_int1 (by rfl) B.int (by decide +kernel) (pa_cons (pe_op op_fdivN (pv 6) pe_int) pa_nil)) (pe_ix ix_list (pv 1) (pv 5) (fun _ _ => rfl))) pa_nil)))))))
      (pss_one (ps_ret (pv 2)))))), ?_⟩
    refine ⟨Nat.zero_le _, fun o no => ?_⟩
    have s1 : Same H (upd H o (.lst [])) := same_new no
    have eo : (upd H o (.lst [])) o = some (.lst (([] : List Int).map V.int)) := upd_same
    generalize upd H o (.lst []) = H1 at s1 eo ⊢
    have more : ∀ (n : Nat) (rs : List Int) (l : Int), ls[n]? = some l → rs.length = n → (∀ (i : Nat) (l : Int), i < n → ls[i]? = some l → ∃ r, rs[i]? = some r ∧ 0 ≤ r ∧ r < l) → ∀ x : Int, ∀ (i : Nat) (m : Int), i < n + 1 → ls[i]? = some m → ∃ r, (rs ++ [x.fmod l])[i]? = some r ∧ 0 ≤ r ∧ r < m := by
      intro n rs l hl hrs hrow x i m hi hm
      have hp := hpos l (List.mem_of_getElem? hl)
      by_cases hin : i < n
      · obtain ⟨r, h1, h2, h3⟩ := hrow i m hin hm
        exact ⟨r, by rw [List.getElem?_append_left (by omega)]; exact h1, h2, h3⟩
      · obtain rfl : i = n := by omega
        rw [hl] at hm; cases hm
        exact ⟨_, by rw [List.getElem?_append_right (by omega), hrs, Nat.sub_self]; rfl, Int.fmod_nonneg_of_pos _ hp.1, Int.fmod_lt_of_pos _ hp.1⟩
    refine ⟨.int c, rfl, c, 1000000000000000000, rfl, rfl, _, rfl, ite2 (fun _ => ?_) (fun _ => ?_)⟩
    · refine ⟨.int c, rfl, c, 1000000000000000000, rfl, rfl, .ref a, rfl, a, rfl, ⟨_, s1.seq hS⟩, for_list (K := K) (a := a) (xs := ls.map V.int) (fun n σ H' => ∃ (rest : Int) (y4 y5 y6 : Option V) (rs : List Int), σ = [some (.int c), some (.ref a), some (.ref o), some (.int rest), y4, y5, y6] ∧ Same H H' ∧ H' o = some (.lst (rs.map V.int)) ∧ rs.length = n ∧
        ∀ (i : Nat) (l : Int), i < n → ls[i]? = some l → ∃ r, rs[i]? = some r ∧ 0 ≤ r ∧ r < l) ⟨_, none, none, none, [], rfl, s1, eo, rfl, fun i l h => absurd h (Nat.not_lt_zero i)⟩ (fun n σ H' _ ⟨_, _, _, _, _, _, sm, _⟩ => sm.seq hS) ?_ ?_⟩
      · rintro n x σ H' hn ⟨rest, y4, y5, y6, rs, rfl, sm, ho, hl, hrow⟩
        rw [List.getElem?_map] at hn
        cases en : ls[n]? with
        | none => rw [en] at hn; cases hn
        | some l =>
        rw [en] at hn; cases hn
        have hp := hpos l (List.mem_of_getElem? en)
        have hlt := (List.getElem?_eq_some_iff.mp en).1
        have hsz : (rs.map V.int).length < sizeLine := by rw [List.length_map]; exact small1000 (by omega)
        refine ⟨.ref o, rfl, .inl ⟨rfl, _, SqL.of ho⟩, .int rest, rfl, .inl ⟨rest, rfl, .int l, rfl, rest, l, rfl, rfl, by omega, o, _, _, rfl, rfl, ho, hsz, ?_⟩⟩
        refine ⟨.int rest, rfl, .int l, rfl, rest, l, rfl, rfl, ⟨by omega, by omega⟩, ?_⟩
        exact ⟨_, _, _, _, _, rfl, same_at sm no, by rw [upd_same, map_snoc'], by rw [List.length_append, hl]; rfl, more n rs l en hl hrow rest⟩
      · rintro σ H' ⟨rest, y4, y5, y6, rs, rfl, sm, ho, hl, hrow⟩
        rw [List.length_map] at hl hrow
        exact ⟨.ref o, rfl, q H' o rs sm no ho ⟨hl, fun i l hli => hrow i l (List.getElem?_eq_some_iff.mp hli).1 hli⟩⟩
    · refine ⟨.ref a, rfl, .ref a, (ls.map V.int).length, rfl, .inl ⟨_, s1.seq hS, rfl⟩, ((ls.map V.int).length : Int), rfl, by omega, by rw [List.length_map]; omega, ?_⟩
      rw [Int.toNat_natCast, List.length_map]
      refine for_range (lo := 0) (n := ls.length) (fun n σ H' => ∃ (y3 y4 y5 y6 : Option V) (rs : List Int), σ = [some (.int c), some (.ref a), some (.ref o), y3, y4, y5, y6] ∧ Same H H' ∧ H' o = some (.lst (rs.map V.int)) ∧ rs.length = n ∧
        ∀ (i : Nat) (l : Int), i < n → ls[i]? = some l → ∃ r, rs[i]? = some r ∧ 0 ≤ r ∧ r < l) ⟨none, none, none, none, [], rfl, s1, eo, rfl, fun i l h => absurd h (Nat.not_lt_zero i)⟩ ?_ ?_
      · rintro n σ H' hn ⟨y3, y4, y5, y6, rs, rfl, sm, ho, hl, hrow⟩
        have e0 : (0 : Int) + (n : Int) = (n : Int) := by omega
        rw [e0]
        have hSn : SqL K H' a (ls.map V.int) := sm.seq hS
        have en : ls[n]? = some (ls[n]'hn) := by simp [hn]
        have hat : (ls.map V.int)[n]? = some (.int (ls[n]'hn)) := by rw [List.getElem?_map, en]; rfl
        have hp := hpos (ls[n]'hn) (List.getElem_mem hn)
        have hsz : (rs.map V.int).length < sizeLine := by rw [List.length_map]; exact small1000 (by omega)
        refine ⟨.int c, rfl, c, 48271, rfl, rfl, .inr ⟨by decide, by decide⟩, .int (n : Int), rfl, (n : Int), 69621, rfl, rfl, .inr ⟨by decide, by decide⟩, _, _, rfl, rfl, _, 11, rfl, rfl, .inl ⟨_, rfl, _, 2147483647, rfl, rfl, (show (2147483647 : Int) ≠ 0 by decide), ?_⟩⟩
        have hm0 : 0 ≤ (c * 48271 + (n : Int) * 69621 + 11).fmod 2147483647 := Int.fmod_nonneg_of_pos _ (by decide)
        have hm1 : (c * 48271 + (n : Int) * 69621 + 11).fmod 2147483647 < 2147483647 := Int.fmod_lt_of_pos _ (by decide)
        refine ⟨_, rfl, .int (n : Int), rfl, 2, (n : Int), rfl, rfl, .inl ⟨by decide, by decide⟩, 16807, _, rfl, rfl, (c * 48271 + (n : Int) * 69621 + 11).fmod 2147483647, _, rfl, rfl, .inl ⟨Int.lt_of_lt_of_le (by decide) hm0, Int.lt_trans hm1 (by decide)⟩, .int (n : Int), rfl, .int (n : Int), rfl, (n : Int), (n : Int), rfl, rfl, .inl ⟨by omega, by omega⟩, _, 40692, rfl, rfl, .inr ⟨by decide, by decide⟩, _, _, rfl, rfl, _, 7, rfl, rfl, .inl ⟨_, rfl, _, 2147483399, rfl, rfl, (show (2147483399 : Int) ≠ 0 by decide), ?_⟩⟩
        refine ⟨.ref o, rfl, .inl ⟨rfl, _, SqL.of ho⟩, _, rfl, _, 31, rfl, rfl, ⟨by decide, by decide⟩, .inl ⟨_, rfl, .ref a, rfl, .int (n : Int), rfl, a, _, (n : Int), .int (ls[n]'hn), rfl, rfl, hSn, atI_nat hat, _, ls[n]'hn, rfl, rfl, by omega, o, _, _, rfl, rfl, ho, hsz, ?_⟩⟩
        exact ⟨_, _, _, _, _, rfl, same_at sm no, by rw [upd_same, map_snoc'], by rw [List.length_append, hl]; rfl, more n rs _ en hl hrow _⟩
      · rintro σ H' ⟨y3, y4, y5, y6, rs, rfl, sm, ho, hl, hrow⟩
        exact ⟨.ref o, rfl, q H' o rs sm no ho ⟨hl, fun i l hli => hrow i l (List.getElem?_eq_some_iff.mp hli).1 hli⟩⟩
end
end K37

set_option maxRecDepth 100000
set_option maxHeartbeats 2000000
/-! an own exception with its own __init__, made where nothing is handled: its context is None -/
namespace RN
open PySem PySem.Spec PyProof.Rows L2
section
variable {X : Cx} {e : Expr} {es : List Expr} {ta : TA} {p pos : Pos}
theorem mk_endN {pins : List (Addr × Obj)} {σ : L2.St} {Ha Hb : Hp} {Q : XK} {hh hh2 hb2 : Heap} {gg gg2 : Array GenState} {d1 dd2 : Drawn} {t1 tt2 : Nat} {oz oz2 : OsState} {a C d : Addr} {fs : List (Str × V)} (T : Raises X (.ref C)) (Ia : Inv X pins σ Ha ⟨hh, gg, d1, t1, oz⟩)
    (ha : hh.objs.size ≤ a) (k : ∀ b o, hh.get? b = some o → hh2.get? b = some o) (un : Un (frs X.stack) [] (upd Ha a (exo a C none)) Hb hh2 hb2) (hok : HOk X.prog X.w Hb hb2) (ho : oz2 = oz) (hb : AllBare gg2)
    (ea : Hb a = some (exo a C (some d))) (ed : Hb d = some (exd d fs)) (hd1 : Ha d = none) (q : Q (.ref C) (some d) (upd (del Hb a) d (.xd fs))) : L2N.MkP X pins σ Q (.ref a) ⟨hb2, gg2, dd2, tt2, oz2⟩ := by
  obtain ⟨t0, G, J, kG, ge, hoe, na⟩ := mk_end0 (d2 := dd2) (t2 := tt2) Ia ha k un hok ho hb ea ed hd1
  exact ⟨a, _, _, ⟨G, gg2, dd2, tt2, oz2⟩, _, .ref C, some d, rfl, J, kG, ge, hoe, ⟨rfl, rfl, fun vs hv => by cases hv; rfl⟩, rfl, rfl, na, rfl, hb, T, q⟩
theorem pmk_oexN {CX : CXT} {x : Str} {C fI : Addr} {k : Nat} {fd : FuncData} {ps : List Str} {sp : Sp} {dz : List Value} {dvz : List V} (T : OexC X.K C) (iC : PySem.W.findIn X.K (.ref C) "__init__" = some (some (.ref fI))) (tI : PySem.W.typeIn X.K (.ref fI) = some (.type "function"))
    (F1 : FnOk X.prog X.w X.K X.mg X.base CX k fI fd ps sp) (hr : Room (k + 1) X.A) (hb : Binds X.K fd ps dz) (hd : Vals dvz dz) (hx : Passes CX X (fun _ _ _ => False)) (hg : Gl X x) (hm : X.mg x = some (.ref C)) (ha : PA X (e :: es) ta)
    (hdb : (x == ("__debug__" : Str)) = false := by decide) (he : starEach (e :: es) X.env = (false, eval e X.env) :: starEach es X.env := by rfl) (hpl : (backTo pos (starEach es X.env)).any (·.1) = false := by rfl) :
    L2N.PMk X (.Call (.Name x p) (e :: es) [] pos) (tMkO C sp dvz ta) := by
  intro pins s σ H Q I h
  obtain ⟨nm, q, N, bs, bm, sn, sub, ab, col, dd, k0, k1, k2, k3, k5, hC, hbm⟩ := T.cls
  refine wpAny_Call_Name_kw (ld_glob I hg hm ?_ hdb)
  refine PySem.W.callWith_K (h₀ := X.base) I.ok.mod.kin T.kC (thn (ha.run pos pins s σ H _ I h) fun uu sa ⟨vv, Ha, Ia, ra, hz, qa⟩ => ⟨Ia.kIn, ?_⟩) he hpl
  show wpAny _ _ (call (.ref C) uu) _ _ _
  obtain ⟨hh, gg, dr, kt, oz⟩ := sa
  have hle : hh.objs.size ≤ hh.objs.size + 1 := Nat.le_succ _
  have hna : Ha (hh.objs.size + 1) = none := Ia.hok.fresh hle
  have hqa := qa (hh.objs.size + 1) hna
  have kp : ∀ b o, hh.get? b = some o → ((hh.push (PySem.W.kdv_tup uu)).push (PySem.HandSPX.excO C hh.objs.size)).get? b = some o := fun b o e => Heap.get?_push_of_some _ (Heap.get?_push_of_some _ e)
  have hob : ((hh.push (PySem.W.kdv_tup uu)).push (PySem.HandSPX.excO C hh.objs.size)).get? (hh.objs.size + 1) = some (PySem.HandSPX.excO C hh.objs.size) := by heap_get
  have Ib : Inv X pins σ (upd Ha (hh.objs.size + 1) (exo (hh.objs.size + 1) C none)) ⟨(hh.push (PySem.W.kdv_tup uu)).push (PySem.HandSPX.excO C hh.objs.size), gg, dr, kt, oz⟩ :=
    Ia.laid (t' := kt) (a := hh.objs.size + 1) (o := exo (hh.objs.size + 1) C none) (h' := (hh.push (PySem.W.kdv_tup uu)).push (PySem.HandSPX.excO C hh.objs.size)) kp hle (exo_ok hob)
  have rb : Vals (V.ref (hh.objs.size + 1) :: (vv ++ dvz)) (Value.ref (hh.objs.size + 1) :: (uu ++ dz)) := .cons rfl (ra.append hd)
  have hlen : (Value.ref (hh.objs.size + 1) :: uu ++ dz).length = ps.length := by
    have e := rb.length
    rw [F1.len _ _ _ _ hqa] at e
    exact e.symm
  have huu : uu.length ≤ sizeLine := by
    rw [← Paired.length ra, sizeLine_eq]
    omega
  refine wpAny_call (PySem.HandSPX.call_own F.excBase_ValueError (fun Y => PySem.HandSPX.refsVE_contains Y bm hbm) (Ia.kIn _ _ hC) (PySem.W.looks_findIn Ia.kIn iC) (fun self => PySem.W.bind_fn Ia.kIn self tI) huu
    (codeAny_mono (F1.run _ X.stack _ _ ⟨Value.ref (hh.objs.size + 1) :: uu, []⟩ (Value.ref (hh.objs.size + 1) :: (uu ++ dz)) _ _ (fun _ _ _ => False) (hr.make C uu []) (Ib.env0.make C uu []) (hb _ (Value.ref (hh.objs.size + 1) :: uu) Ib.kIn hlen) rb hqa) fun r s' hqq => ?_))
  cases r with
  | error erx => exact hx pins σ _ _ erx s' Ib hqq
  | ok fl =>
    cases fl with
    | ret u =>
      obtain ⟨v, Hb, oz2, bar2, unb, hokb, rvv, evv, d, fs, ea, ed, hd1, qb⟩ := hqq
      subst evv
      obtain ⟨hb2, gg2, dd2, tt2, os'⟩ := s'
      exact ⟨rvv, mk_endN (raises_own T.exC T.tyC) Ia hle kp unb hokb oz2 bar2 ea ed hd1 qb⟩
    | next => exact False.elim hqq
    | brk => exact False.elim hqq
    | cont => exact False.elim hqq

end
theorem takes0N {X : Cx} : L2N.Takes X (fun _ _ _ _ => False) := fun _ _ x => by
  obtain ⟨_, _, _, _, _, _, _, _, _, _, _, _, _, _, _, _, z⟩ := x
  exact z.elim
/-- a def that may raise where nothing is handled -/
theorem okXN {P : Program} {w : World} {K : PySem.W.Frag} {mg : Str → Option Value} {base : Heap} {x qual : Str} {st : Stmt} {f : Addr} {fd : FuncData} {N ps : List Str} {k : Nat} {sp : Sp} (F : Fun K x qual st f fd) (S : FnScope N ps (defScope st)) (hl : ∀ vs H Q E, sp vs H Q E → vs.length = ps.length)
    (hb : ∀ (cdv : Value) (A : Around) (outer : List Env) (s : Shared) (H : Hp) (vs : List V) (Q : VK) (E : XK), Room k (A.deeper (envOfC qual (defScope st) s.heap.objs.size f cdv)) → sp vs H Q E →
      ∃ u, PSs (cxOf (L2N.CX P w) P w K mg base N qual (defScope st) f cdv A outer s H E) (defBody st) u ∧ u { nx := fun _ G => Q .non G, rt := Q } (start N vs) H) : FnOk P w K mg base (L2N.CX P w) (k + 1) f fd ps sp := by
  obtain ⟨c1, c2, c3, c4, c5, c6, c7, c8, c9, rfl, lk, hcd⟩ := F.ex
  exact fn_of lk hcd S hl fun A outer s H vs Q E hr hsp => hb c7 A outer s H vs Q E hr hsp
/-- a def called inside an except suite -/
theorem okH {P : Program} {w : World} {K : PySem.W.Frag} {mg : Str → Option Value} {base : Heap} {x qual : Str} {st : Stmt} {f : Addr} {fd : FuncData} {N ps : List Str} {k : Nat} {sp : Sp} (F : Fun K x qual st f fd) (S : FnScope N ps (defScope st)) (hl : ∀ vs H Q E, sp vs H Q E → vs.length = ps.length)
    (hb : ∀ (cdv : Value) (A : Around) (outer : List Env) (s : Shared) (H : Hp) (vs : List V) (Q : VK) (E : XK) (p : Addr × Obj), sp vs H Q E →
      ∃ u, PSs (L2H.cxH CX0 P w K mg base N qual (defScope st) f cdv A outer s H E p) (defBody st) u ∧ u { nx := fun _ G => Q .non G, rt := Q } (start N vs) H) : L2H.FnH P w K mg base CX0 (k + 1) f fd ps sp := by
  obtain ⟨c1, c2, c3, c4, c5, c6, c7, c8, c9, rfl, lk, hcd⟩ := F.ex
  exact L2H.fn_ofH lk hcd S hl fun A outer s H vs Q E p _ _ hsp => hb c7 A outer s H vs Q E p hsp
end RN

set_option maxRecDepth 100000
set_option maxHeartbeats 8000000
namespace K37
open PySem PySem.Spec PyProof.Rows L2
section
variable {P : Program} {w : World} {K : PySem.W.Frag} {mg : Str → Option Value} {base : Heap}
theorem ty_txt {H : Hp} {z : Str} : TyX K H (.str z) (.type "str") := .base (.str z)
theorem ty_lst {H : Hp} {a : Addr} {xs : List V} (h : H a = some (.lst xs)) : TyX K H (.ref a) (.type "list") := .base (.lst h)
theorem ty_tup {H : Hp} {a : Addr} {xs : List V} (h : H a = some (.tup xs)) : TyX K H (.ref a) (.type "tuple") := .base (.tup h)
def Leaf (v : V) : Prop := (∃ z, v = .str z) ∨ (∃ i, v = .int i) ∨ (∃ b, v = .bl b) ∨ v = .non
/-- the same through and through, n deep -/
def SameV : Nat → Hp → V → V → Prop
  | 0, _, x, y => x = y ∧ Leaf x
  | n + 1, H, x, y => (x = y ∧ Leaf x) ∨ ∃ (a b : Addr) (xs ys : List V), x = .ref a ∧ y = .ref b ∧ ((H a = some (.lst xs) ∧ H b = some (.lst ys)) ∨ (H a = some (.tup xs) ∧ H b = some (.tup ys))) ∧ xs.length = ys.length ∧ ys.length ≤ 1000 ∧
      ∀ (i : Nat) u v, xs[i]? = some u → ys[i]? = some v → SameV n H u v
/-- tuples stand -/
def Still : HO → Prop
  | .tup _ => True
  | _ => False
def Kp (H H' : Hp) : Prop := ∀ b o, Still o → H b = some o → H' b = some o
theorem Kp.refl (H : Hp) : Kp H H := fun _ _ _ h => h
theorem Kp.trans {H H1 H2 : Hp} (a : Kp H H1) (b : Kp H1 H2) : Kp H H2 := fun x o n h => b x o n (a x o n h)
theorem Kp.of {H H' : Hp} (s : Same H H') : Kp H H' := fun b o _ h => s b o h
theorem Kp.but {H H' : Hp} {p : Addr} {u : HO} (hp : H p = some u) (nu : ¬ Still u) (s : ∀ b o, b ≠ p → H b = some o → H' b = some o) : Kp H H' := fun b o n h => s b o (fun e => by
  rw [e, hp] at h; cases h; exact nu n) h
theorem Kp.tup {H H' : Hp} (s : Kp H H') {a : Addr} {xs : List V} (h : H a = some (.tup xs)) : H' a = some (.tup xs) := s _ _ True.intro h
theorem upd_but {H : Hp} {p : Addr} {x : HO} : ∀ b o, b ≠ p → H b = some o → upd H p x b = some o := fun b o h e => by rw [upd_ne h]; exact e
def spSame (n : Nat) : Sp := fun vs H Q _ => ∃ x y, vs = [x, y] ∧ SameV n H x y ∧ Q (.bl true) H
theorem scSame : FnScope ["_law_one", "_law_two", "_law_k"] ["_law_one", "_law_two"] (defScope sSame) := ⟨rfl, rfl, rfl, by decide +kernel, rfl, by decide +kernel, by decide +kernel⟩
theorem ok_same0 {f : Addr} {fd : FuncData} (B : Blt mg) (F : Fun K "_law_same" "_law_same" sSame f fd) : FnOk P w K mg base CX0 1 f fd ["_law_one", "_law_two"] (spSame 0) := by
  refine F.ok scSame (fun vs H Q E h => ?_) (fun cdv A outer s H vs Q E hr h => ?_)
  · obtain ⟨x, y, rfl, _⟩ := h; rfl
  · obtain ⟨x, y, rfl, ⟨rfl, hv⟩, q⟩ := h
    refine ⟨_, (pss_cons (ps_if (pt_cmpR op_isN (pv 1) pe_non (nomark _)) (pss_one (ps_ret (pe_cmpR op_isN (pv 0) pe_non (nomark _)))) pss_nil)
      (pss_cons (ps_if (pt_val (pe_callB call_isi (by rfl) B.isi (by decide +kernel) (pa_cons (pv 1) (pa_cons (pe_bltn (v := .ty "bool") (by rfl) B.bool (by decide +kernel) rfl) pa_nil)))) (pss_one (ps_ret (pe_and (pe_callB call_isi (by rfl) B.isi (by decide +kernel) (pa_cons (pv 0) (pa_cons (pe_bltn (v := .ty "bool") (by rfl) B.bool (by decide +kernel) rfl) pa_nil))) (pe_one (pe_cmpR op_eq (pv 0) (pv 1) (nomark _)))))) pss_nil)
      (pss_cons (ps_if (pt_val (pe_callB call_isi (by rfl) B.isi (by decide +kernel) (pa_cons (pv 1) (pa_cons (pe_bltn (v := .ty "int") (by rfl) B.int (by decide +kernel) rfl) pa_nil)))) (pss_one (ps_ret (pe_and (pe_callB call_isi (by rfl) B.isi (by decide +kernel) (pa_cons (pv 0) (pa_cons (pe_bltn (v := .ty "int") (by rfl) B.int (by decide +kernel) rfl) pa_nil))) (pe_and (pe_not (pe_callB call_isi (by rfl) B.isi (by decide +kernel) (pa_cons (pv 0) (pa_cons (pe_bltn (v := .ty "bool") (by rfl) B.bool (by decide +kernel) rfl) pa_nil)))) (pe_one (pe_cmpR op_eq (pv 0) (pv 1) (nomark _))))))) pss_nil)
      (pss_cons (ps_if (pt_val (pe_callB call_isi (by rfl) B.isi (by decide +kernel) (pa_cons (pv 1) (pa_cons (pe_bltn (v := .ty "str") (by rfl) B.str (by decide +kernel) rfl) pa_nil)))) (pss_one (ps_ret (pe_and (pe_callB call_isi (by rfl) B.isi (by decide +kernel) (pa_cons (pv 0) (pa_cons (pe_bltn (v := .ty "str") (by rfl) B.str (by decide +kernel) rfl) pa_nil))) (pe_one (pe_cmpR op_eq (pv 0) (pv 1) (nomark _)))))) pss_nil)
      (pss_cons ps_never (pss_cons ps_never (pss_cons ps_never (pss_one ps_never)))))))), ?_⟩
    rcases hv with ⟨z, rfl⟩ | ⟨i, rfl⟩ | ⟨b, rfl⟩ | rfl
    rotate_right
    · exact ⟨.non, rfl, rfl, _, rfl, iteT ⟨.non, rfl, rfl, q⟩⟩
    · refine ⟨.str z, rfl, rfl, _, rfl, iteF ?_⟩
      refine ⟨.str z, rfl, .str z, .ty "bool", .type "str", .type "bool", false, rfl, .ty "bool", ty_txt, kit_ty (by decide +kernel), _, rfl, iteF ?_⟩
      refine ⟨.str z, rfl, .str z, .ty "int", .type "str", .type "int", false, rfl, .ty "int", ty_txt, kit_ty (by decide +kernel), _, rfl, iteF ?_⟩
      refine ⟨.str z, rfl, .str z, .ty "str", .type "str", .type "str", true, rfl, .ty "str", ty_txt, kit_ty (by decide +kernel), _, rfl, iteT ?_⟩
      refine ⟨.str z, rfl, .str z, .ty "str", .type "str", .type "str", true, rfl, .ty "str", ty_txt, kit_ty (by decide +kernel), _, rfl, iteT ?_⟩
      refine ⟨.str z, rfl, .str z, rfl, rfl, ?_⟩
      rw [decide_eq_true rfl]; exact q
    · refine ⟨.int i, rfl, rfl, _, rfl, iteF ?_⟩
      refine ⟨.int i, rfl, .int i, .ty "bool", .type "int", .type "bool", false, rfl, .ty "bool", .base (.int i), kit_ty (by decide +kernel), _, rfl, iteF ?_⟩
      refine ⟨.int i, rfl, .int i, .ty "int", .type "int", .type "int", true, rfl, .ty "int", .base (.int i), kit_ty (by decide +kernel), _, rfl, iteT ?_⟩
      refine ⟨.int i, rfl, .int i, .ty "int", .type "int", .type "int", true, rfl, .ty "int", .base (.int i), kit_ty (by decide +kernel), _, rfl, iteT ?_⟩
      refine ⟨.int i, rfl, .int i, .ty "bool", .type "int", .type "bool", false, rfl, .ty "bool", .base (.int i), kit_ty (by decide +kernel), _, rfl, _, rfl, iteT ?_⟩
      refine ⟨.int i, rfl, .int i, rfl, rfl, ?_⟩
      rw [decide_eq_true rfl]; exact q
    · refine ⟨.bl b, rfl, rfl, _, rfl, iteF ?_⟩
      refine ⟨.bl b, rfl, .bl b, .ty "bool", .type "bool", .type "bool", true, rfl, .ty "bool", .base (.bl b), kit_ty (by decide +kernel), _, rfl, iteT ?_⟩
      refine ⟨.bl b, rfl, .bl b, .ty "bool", .type "bool", .type "bool", true, rfl, .ty "bool", .base (.bl b), kit_ty (by decide +kernel), _, rfl, iteT ?_⟩
      refine ⟨.bl b, rfl, .bl b, rfl, rfl, ?_⟩
      rw [decide_eq_true rfl]; exact q
theorem ok_same1 {n : Nat} {f_same : Addr} {fd_same : FuncData} (B : Blt mg) (F_same : Fun K "_law_same" "_law_same" sSame f_same fd_same) (b_same : Binds K fd_same ["_law_one", "_law_two"] []) (g_same : mg "_law_same" = some (.ref f_same))
    (G_same : FnOk P w K mg base CX0 (n + 1) f_same fd_same ["_law_one", "_law_two"] (spSame n)) : FnOk P w K mg base CX0 (n + 2) f_same fd_same ["_law_one", "_law_two"] (spSame (n + 1)) := by
  refine F_same.ok scSame (fun vs H Q E h => ?_) (fun cdv A outer s H vs Q E hr h => ?_)
  · obtain ⟨x, y, rfl, _⟩ := h; rfl
  · obtain ⟨x, y, rfl, hv, q⟩ := h
    refine ⟨_, (pss_cons (ps_if (pt_cmpR op_isN (pv 1) pe_non (nomark _)) (pss_one (ps_ret (pe_cmpR op_isN (pv 0) pe_non (nomark _)))) pss_nil)
      (pss_cons (ps_if (pt_val (pe_callB call_isi (by rfl) B.isi (by decide +kernel) (pa_cons (pv 1) (pa_cons (pe_bltn (v := .ty "bool") (by rfl) B.bool (by decide +kernel) rfl) pa_nil)))) (pss_one (ps_ret (pe_and (pe_callB call_isi (by rfl) B.isi (by decide +kernel) (pa_cons (pv 0) (pa_cons (pe_bltn (v := .ty "bool") (by rfl) B.bool (by decide +kernel) rfl) pa_nil))) (pe_one (pe_cmpR op_eq (pv 0) (pv 1) (nomark _)))))) pss_nil)
      (pss_cons (ps_if (pt_val (pe_callB call_isi (by rfl) B.isi (by decide +kernel) (pa_cons (pv 1) (pa_cons (pe_bltn (v := .ty "int") (by rfl) B.int (by decide +kernel) rfl) pa_nil)))) (pss_one (ps_ret (pe_and (pe_callB call_isi (by rfl) B.isi (by decide +kernel) (pa_cons (pv 0) (pa_cons (pe_bltn (v := .ty "int") (by rfl) B.int (by decide +kernel) rfl) pa_nil))) (pe_and (pe_not (pe_callB call_isi (by rfl) B.isi (by decide +kernel) (pa_cons (pv 0) (pa_cons (pe_bltn (v := .ty "bool") (by rfl) B.bool (by decide +kernel) rfl) pa_nil)))) (pe_one (pe_cmpR op_eq (pv 0) (pv 1) (nomark _))))))) pss_nil)
      (pss_cons (ps_if (pt_val (pe_callB call_isi (by rfl) B.isi (by decide +kernel) (pa_cons (pv 1) (pa_cons (pe_bltn (v := .ty "str") (by rfl) B.str (by decide +kernel) rfl) pa_nil)))) (pss_one (ps_ret (pe_and (pe_callB call_isi (by rfl) B.isi (by decide +kernel) (pa_cons (pv 0) (pa_cons (pe_bltn (v := .ty "str") (by rfl) B.str (by decide +kernel) rfl) pa_nil))) (pe_one (pe_cmpR op_eq (pv 0) (pv 1) (nomark _)))))) pss_nil)
      (pss_cons (ps_if (PW.pt (pw_and (pt_val (pe_callB call_isi (by rfl) B.isi (by decide +kernel) (pa_cons (pv 1) (pa_cons (pe_bltn (v := .ty "tuple") (by rfl) B.tuple (by decide +kernel) rfl) pa_nil)))) (pw_and1 (pt_not (pt_val (pe_callB call_isi (by rfl) B.isi (by decide +kernel) (pa_cons (pv 0) (pa_cons (pe_bltn (v := .ty "tuple") (by rfl) B.tuple (by decide +kernel) rfl) pa_nil)))))))) (pss_one ps_never) pss_nil)
      (pss_cons (ps_if (PW.pt (pw_and (pt_val (pe_callB call_isi (by rfl) B.isi (by decide +kernel) (pa_cons (pv 1) (pa_cons (pe_bltn (v := .ty "list") (by rfl) B.list (by decide +kernel) rfl) pa_nil)))) (pw_and1 (pt_not (pt_val (pe_callB call_isi (by rfl) B.isi (by decide +kernel) (pa_cons (pv 0) (pa_cons (pe_bltn (v := .ty "list") (by rfl) B.list (by decide +kernel) rfl) pa_nil)))))))) (pss_one ps_never) pss_nil)
      (pss_cons (ps_if (PW.pt (pw_or (pt_val (pe_callB call_isi (by rfl) B.isi (by decide +kernel) (pa_cons (pv 1) (pa_cons (pe_bltn (v := .ty "tuple") (by rfl) B.tuple (by decide +kernel) rfl) pa_nil)))) (pw_or1 (pt_val (pe_callB call_isi (by rfl) B.isi (by decide +kernel) (pa_cons (pv 1) (pa_cons (pe_bltn (v := .ty "list") (by rfl) B.list (by decide +kernel) rfl) pa_nil)))))))
       (pss_cons (ps_if (pt_cmpR op_ne (pe_callB call_len (by rfl) B.len PySem.boot_len (pa_cons (pv 0) pa_nil)) (pe_callB call_len (by rfl) B.len PySem.boot_len (pa_cons (pv 1) pa_nil)) (nomark _)) (pss_one (ps_ret pe_bl)) pss_nil)
       (pss_cons (ps_for (PassesOwn.never) rfl (pi_range1 (by rfl) B.range (pa_cons (pe_callB call_len (by rfl) B.len PySem.boot_len (pa_cons (pv 1) pa_nil)) pa_nil)) (pg_name (i := 2) scSame.nd rfl (.inl rfl))
        (pss_one (ps_if (pt_not (pt_val (pe_call G_same hr (by rfl) g_same F_same.kp b_same .nil pass0 (pa_cons (pe_ix (ix_list.or ix_tup) (pv 0) (pv 2) (fun _ _ => rfl)) (pa_cons (pe_ix (ix_list.or ix_tup) (pv 1) (pv 2) (fun _ _ => rfl)) pa_nil)))))
         (pss_one (ps_ret pe_bl)) pss_nil)))
       (pss_one (ps_ret pe_bl)))) pss_nil)
      (pss_one ps_never)))))))), ?_⟩
    rcases hv with ⟨rfl, hv⟩ | ⟨a, b, xs, ys, rfl, rfl, ⟨ha, hb⟩ | ⟨ha, hb⟩, hle, hx, hall⟩
    · rcases hv with ⟨z, rfl⟩ | ⟨i, rfl⟩ | ⟨b, rfl⟩ | rfl
      rotate_right
      · exact ⟨.non, rfl, rfl, _, rfl, iteT ⟨.non, rfl, rfl, q⟩⟩
      · refine ⟨.str z, rfl, rfl, _, rfl, iteF ?_⟩
        refine ⟨.str z, rfl, .str z, .ty "bool", .type "str", .type "bool", false, rfl, .ty "bool", ty_txt, kit_ty (by decide +kernel), _, rfl, iteF ?_⟩
        refine ⟨.str z, rfl, .str z, .ty "int", .type "str", .type "int", false, rfl, .ty "int", ty_txt, kit_ty (by decide +kernel), _, rfl, iteF ?_⟩
        refine ⟨.str z, rfl, .str z, .ty "str", .type "str", .type "str", true, rfl, .ty "str", ty_txt, kit_ty (by decide +kernel), _, rfl, iteT ?_⟩
        refine ⟨.str z, rfl, .str z, .ty "str", .type "str", .type "str", true, rfl, .ty "str", ty_txt, kit_ty (by decide +kernel), _, rfl, iteT ?_⟩
        refine ⟨.str z, rfl, .str z, rfl, rfl, ?_⟩
        rw [decide_eq_true rfl]; exact q
      · refine ⟨.int i, rfl, rfl, _, rfl, iteF ?_⟩
        refine ⟨.int i, rfl, .int i, .ty "bool", .type "int", .type "bool", false, rfl, .ty "bool", .base (.int i), kit_ty (by decide +kernel), _, rfl, iteF ?_⟩
        refine ⟨.int i, rfl, .int i, .ty "int", .type "int", .type "int", true, rfl, .ty "int", .base (.int i), kit_ty (by decide +kernel), _, rfl, iteT ?_⟩
        refine ⟨.int i, rfl, .int i, .ty "int", .type "int", .type "int", true, rfl, .ty "int", .base (.int i), kit_ty (by decide +kernel), _, rfl, iteT ?_⟩
        refine ⟨.int i, rfl, .int i, .ty "bool", .type "int", .type "bool", false, rfl, .ty "bool", .base (.int i), kit_ty (by decide +kernel), _, rfl, _, rfl, iteT ?_⟩
        refine ⟨.int i, rfl, .int i, rfl, rfl, ?_⟩
        rw [decide_eq_true rfl]; exact q
      · refine ⟨.bl b, rfl, rfl, _, rfl, iteF ?_⟩
        refine ⟨.bl b, rfl, .bl b, .ty "bool", .type "bool", .type "bool", true, rfl, .ty "bool", .base (.bl b), kit_ty (by decide +kernel), _, rfl, iteT ?_⟩
        refine ⟨.bl b, rfl, .bl b, .ty "bool", .type "bool", .type "bool", true, rfl, .ty "bool", .base (.bl b), kit_ty (by decide +kernel), _, rfl, iteT ?_⟩
        refine ⟨.bl b, rfl, .bl b, rfl, rfl, ?_⟩
        rw [decide_eq_true rfl]; exact q
    · refine ⟨.ref b, rfl, rfl, _, rfl, iteF ?_⟩
      refine ⟨.ref b, rfl, .ref b, .ty "bool", .type "list", .type "bool", false, rfl, .ty "bool", ty_lst hb, kit_ty (by decide +kernel), _, rfl, iteF ?_⟩
      refine ⟨.ref b, rfl, .ref b, .ty "int", .type "list", .type "int", false, rfl, .ty "int", ty_lst hb, kit_ty (by decide +kernel), _, rfl, iteF ?_⟩
      refine ⟨.ref b, rfl, .ref b, .ty "str", .type "list", .type "str", false, rfl, .ty "str", ty_lst hb, kit_ty (by decide +kernel), _, rfl, iteF ?_⟩
      refine ⟨.ref b, rfl, .ref b, .ty "tuple", .type "list", .type "tuple", false, rfl, .ty "tuple", ty_lst hb, kit_ty (by decide +kernel), _, rfl, iteF ?_⟩
      refine ⟨.ref b, rfl, .ref b, .ty "list", .type "list", .type "list", true, rfl, .ty "list", ty_lst hb, kit_ty (by decide +kernel), _, rfl, iteT ?_⟩
      refine ⟨.ref a, rfl, .ref a, .ty "list", .type "list", .type "list", true, rfl, .ty "list", ty_lst ha, kit_ty (by decide +kernel), _, rfl, iteF ?_⟩
      refine ⟨.ref b, rfl, .ref b, .ty "tuple", .type "list", .type "tuple", false, rfl, .ty "tuple", ty_lst hb, kit_ty (by decide +kernel), _, rfl, iteF ?_⟩
      refine ⟨.ref b, rfl, .ref b, .ty "list", .type "list", .type "list", true, rfl, .ty "list", ty_lst hb, kit_ty (by decide +kernel), _, rfl, iteT ?_⟩
      refine ⟨.ref a, rfl, .ref a, xs.length, rfl, .inl ⟨_, SqL.of ha, rfl⟩, .ref b, rfl, .ref b, ys.length, rfl, .inl ⟨_, SqL.of hb, rfl⟩, rfl, _, rfl, ?_⟩
      rw [hle, decide_eq_true rfl]
      refine iteF ⟨.ref b, rfl, .ref b, ys.length, rfl, .inl ⟨_, SqL.of hb, rfl⟩, (ys.length : Int), rfl, by omega, by omega, ?_⟩
      rw [Int.toNat_natCast]
      refine for_range (lo := 0) (n := ys.length) (fun n σ H' => ∃ y, σ = [some (.ref a), some (.ref b), y] ∧ H' = H) ⟨none, rfl, rfl⟩ ?_ ?_
      · rintro k σ H' hk ⟨y, rfl, rfl⟩
        have e0 : (0 : Int) + (k : Int) = (k : Int) := by omega
        rw [e0]
        have g1 : xs[k]? = some (xs[k]'(by omega)) := by simp
        have g2 : ys[k]? = some (ys[k]'hk) := by simp
        refine ⟨.ref a, rfl, .int (k : Int), rfl, .inl ⟨a, xs, (k : Int), _, rfl, rfl, SqL.of ha, atI_nat g1, .ref b, rfl, .int (k : Int), rfl, .inl ⟨b, ys, (k : Int), _, rfl, rfl, SqL.of hb, atI_nat g2, ?_⟩⟩⟩
        exact ⟨_, _, rfl, hall k _ _ g1 g2, true, rfl, iteF ⟨_, rfl, rfl⟩⟩
      · rintro σ H' ⟨y, rfl, rfl⟩
        exact q
    · refine ⟨.ref b, rfl, rfl, _, rfl, iteF ?_⟩
      refine ⟨.ref b, rfl, .ref b, .ty "bool", .type "tuple", .type "bool", false, rfl, .ty "bool", ty_tup hb, kit_ty (by decide +kernel), _, rfl, iteF ?_⟩
      refine ⟨.ref b, rfl, .ref b, .ty "int", .type "tuple", .type "int", false, rfl, .ty "int", ty_tup hb, kit_ty (by decide +kernel), _, rfl, iteF ?_⟩
      refine ⟨.ref b, rfl, .ref b, .ty "str", .type "tuple", .type "str", false, rfl, .ty "str", ty_tup hb, kit_ty (by decide +kernel), _, rfl, iteF ?_⟩
      refine ⟨.ref b, rfl, .ref b, .ty "tuple", .type "tuple", .type "tuple", true, rfl, .ty "tuple", ty_tup hb, kit_ty (by decide +kernel), _, rfl, iteT ?_⟩
      refine ⟨.ref a, rfl, .ref a, .ty "tuple", .type "tuple", .type "tuple", true, rfl, .ty "tuple", ty_tup ha, kit_ty (by decide +kernel), _, rfl, iteF ?_⟩
      refine ⟨.ref b, rfl, .ref b, .ty "list", .type "tuple", .type "list", false, rfl, .ty "list", ty_tup hb, kit_ty (by decide +kernel), _, rfl, iteF ?_⟩
      refine ⟨.ref b, rfl, .ref b, .ty "tuple", .type "tuple", .type "tuple", true, rfl, .ty "tuple", ty_tup hb, kit_ty (by decide +kernel), _, rfl, iteT ?_⟩
      refine ⟨.ref a, rfl, .ref a, xs.length, rfl, .inr ⟨_, SqT.of ha, rfl⟩, .ref b, rfl, .ref b, ys.length, rfl, .inr ⟨_, SqT.of hb, rfl⟩, rfl, _, rfl, ?_⟩
      rw [hle, decide_eq_true rfl]
      refine iteF ⟨.ref b, rfl, .ref b, ys.length, rfl, .inr ⟨_, SqT.of hb, rfl⟩, (ys.length : Int), rfl, by omega, by omega, ?_⟩
      rw [Int.toNat_natCast]
      refine for_range (lo := 0) (n := ys.length) (fun n σ H' => ∃ y, σ = [some (.ref a), some (.ref b), y] ∧ H' = H) ⟨none, rfl, rfl⟩ ?_ ?_
      · rintro k σ H' hk ⟨y, rfl, rfl⟩
        have e0 : (0 : Int) + (k : Int) = (k : Int) := by omega
        rw [e0]
        have g1 : xs[k]? = some (xs[k]'(by omega)) := by simp
        have g2 : ys[k]? = some (ys[k]'hk) := by simp
        refine ⟨.ref a, rfl, .int (k : Int), rfl, .inr ⟨a, xs, (k : Int), _, rfl, rfl, SqT.of ha, atI_nat g1, .ref b, rfl, .int (k : Int), rfl, .inr ⟨b, ys, (k : Int), _, rfl, rfl, SqT.of hb, atI_nat g2, ?_⟩⟩⟩
        exact ⟨_, _, rfl, hall k _ _ g1 g2, true, rfl, iteF ⟨_, rfl, rfl⟩⟩
      · rintro σ H' ⟨y, rfl, rfl⟩
        exact q
theorem ok_same {f_same : Addr} {fd_same : FuncData} (B : Blt mg) (F_same : Fun K "_law_same" "_law_same" sSame f_same fd_same) (b_same : Binds K fd_same ["_law_one", "_law_two"] []) (g_same : mg "_law_same" = some (.ref f_same)) :
    ∀ n, FnOk P w K mg base CX0 (n + 1) f_same fd_same ["_law_one", "_law_two"] (spSame n)
  | 0 => ok_same0 B F_same
  | n + 1 => ok_same1 B F_same b_same g_same (ok_same B F_same b_same g_same n)
/-! ### the errors -/
def spEI (K : PySem.W.Frag) (C : Addr) (fld : Str) : Sp := fun vs H Q _ => ∃ (a : Addr) (v : V), vs = [.ref a, v] ∧ H a = some (exo a C none) ∧ OexC K C ∧ PySem.W.findIn K (.ref C) fld = some none ∧
  ∀ d, H d = none → d ≠ a → Q .non (upd (upd H d (exd d [(fld, v)])) a (exo a C (some d)))
theorem heap_err {H : Hp} {a d C : Addr} {v : V} {fld : Str} (ha : H a = none) (hd : H d = none) (hne : d ≠ a) :
    upd (del (upd (upd (upd H a (exo a C none)) d (exd d [(fld, v)])) a (exo a C (some d))) a) d (.xd [(fld, v)]) = upd H d (.xd [(fld, v)]) := by
  funext b
  by_cases h1 : b = d
  · subst h1; rw [upd_same, upd_same]
  · rw [upd_ne h1, upd_ne h1]
    by_cases h2 : b = a
    · subst h2; rw [del_same, ha]
    · rw [del_ne h2, upd_ne h2, upd_ne h1, upd_ne h2]
theorem raise_err {C : Addr} {v : V} {H : Hp} {Q : XK} {fld : Str} (o : OexC K C) (fp : PySem.W.findIn K (.ref C) fld = some none) (q : ∀ d, H d = none → Q (.ref C) (some d) (upd H d (.xd [(fld, v)]))) :
    [v].length ≤ 1000 ∧ ∀ a, H a = none → spEI K C fld (.ref a :: ([v] ++ [])) (upd H a (exo a C none))
      (fun u H2 => u = .non ∧ ∃ (d : Addr) (fs : List (Str × V)), H2 a = some (exo a C (some d)) ∧ H2 d = some (exd d fs) ∧ H d = none ∧ Q (.ref C) (some d) (upd (del H2 a) d (.xd fs))) (fun _ _ _ => False) := by
  refine ⟨by show 1 ≤ 1000; decide, fun a ha => ⟨a, v, rfl, upd_same, o, fp, fun d h1 hne => ⟨rfl, d, [(fld, v)], upd_same, ?_, ?_, ?_⟩⟩⟩
  · rw [upd_ne hne, upd_same]
  · rw [upd_ne hne] at h1; exact h1
  · rw [upd_ne hne] at h1
    rw [heap_err ha h1 hne]; exact q d h1

theorem scTlI : FnScope ["self", "many"] ["self", "many"] (defScope sTooI) := ⟨rfl, rfl, rfl, by decide +kernel, rfl, by decide +kernel, by decide +kernel⟩
structure TlE (K : PySem.W.Frag) (mg : Str → Option Value) (C fI : Addr) (fd : FuncData) : Prop where
  gC : mg "TooLarge" = some (.ref C)
  oex : OexC K C
  fp : PySem.W.findIn K (.ref C) "many" = some none
  iC : PySem.W.findIn K (.ref C) "__init__" = some (some (.ref fI))
  tI : PySem.W.typeIn K (.ref fI) = some (.type "function")
  F : Fun K "__init__" "TooLarge.__init__" sTooI fI fd
  b : Binds K fd ["self", "many"] []
def spTlI (K : PySem.W.Frag) (C : Addr) : Sp := spEI K C "many"
theorem ok_TlI {f C : Addr} {fd : FuncData} (F : Fun K "__init__" "TooLarge.__init__" sTooI f fd) : FnOk P w K mg base CX0 1 f fd ["self", "many"] (spTlI K C) := by
  refine F.ok scTlI (fun vs H Q E h => ?_) (fun cdv A outer s H vs Q E hr h => ?_)
  · obtain ⟨a, v, rfl, _⟩ := h; rfl
  · obtain ⟨a, v, rfl, ha, o, fp, q⟩ := h
    refine ⟨_, pss_one (ps_ost (pv 0) (pv 1)), ?_⟩
    exact ⟨_, rfl, _, rfl, a, C, rfl, o, fp, .inl ⟨ha, fun dx h1 h2 => q dx h1 h2⟩⟩

theorem scNnI : FnScope ["self", "number"] ["self", "number"] (defScope sNoNI) := ⟨rfl, rfl, rfl, by decide +kernel, rfl, by decide +kernel, by decide +kernel⟩
structure NnE (K : PySem.W.Frag) (mg : Str → Option Value) (C fI : Addr) (fd : FuncData) : Prop where
  gC : mg "NoSuchNumber" = some (.ref C)
  oex : OexC K C
  fp : PySem.W.findIn K (.ref C) "number" = some none
  iC : PySem.W.findIn K (.ref C) "__init__" = some (some (.ref fI))
  tI : PySem.W.typeIn K (.ref fI) = some (.type "function")
  F : Fun K "__init__" "NoSuchNumber.__init__" sNoNI fI fd
  b : Binds K fd ["self", "number"] []
def spNnI (K : PySem.W.Frag) (C : Addr) : Sp := spEI K C "number"
theorem ok_NnI {f C : Addr} {fd : FuncData} (F : Fun K "__init__" "NoSuchNumber.__init__" sNoNI f fd) : FnOk P w K mg base CX0 1 f fd ["self", "number"] (spNnI K C) := by
  refine F.ok scNnI (fun vs H Q E h => ?_) (fun cdv A outer s H vs Q E hr h => ?_)
  · obtain ⟨a, v, rfl, _⟩ := h; rfl
  · obtain ⟨a, v, rfl, ha, o, fp, q⟩ := h
    refine ⟨_, pss_one (ps_ost (pv 0) (pv 1)), ?_⟩
    exact ⟨_, rfl, _, rfl, a, C, rfl, o, fp, .inl ⟨ha, fun dx h1 h2 => q dx h1 h2⟩⟩

theorem scBbI : FnScope ["self", "field"] ["self", "field"] (defScope sBadI) := ⟨rfl, rfl, rfl, by decide +kernel, rfl, by decide +kernel, by decide +kernel⟩
structure BbE (K : PySem.W.Frag) (mg : Str → Option Value) (C fI : Addr) (fd : FuncData) : Prop where
  gC : mg "BadBook" = some (.ref C)
  oex : OexC K C
  fp : PySem.W.findIn K (.ref C) "field" = some none
  iC : PySem.W.findIn K (.ref C) "__init__" = some (some (.ref fI))
  tI : PySem.W.typeIn K (.ref fI) = some (.type "function")
  F : Fun K "__init__" "BadBook.__init__" sBadI fI fd
  b : Binds K fd ["self", "field"] []
def spBbI (K : PySem.W.Frag) (C : Addr) : Sp := spEI K C "field"
theorem ok_BbI {f C : Addr} {fd : FuncData} (F : Fun K "__init__" "BadBook.__init__" sBadI f fd) : FnOk P w K mg base CX0 1 f fd ["self", "field"] (spBbI K C) := by
  refine F.ok scBbI (fun vs H Q E h => ?_) (fun cdv A outer s H vs Q E hr h => ?_)
  · obtain ⟨a, v, rfl, _⟩ := h; rfl
  · obtain ⟨a, v, rfl, ha, o, fp, q⟩ := h
    refine ⟨_, pss_one (ps_ost (pv 0) (pv 1)), ?_⟩
    exact ⟨_, rfl, _, rfl, a, C, rfl, o, fp, .inl ⟨ha, fun dx h1 h2 => q dx h1 h2⟩⟩

end
end K37

set_option maxRecDepth 100000
set_option maxHeartbeats 2000000
namespace RJ
open PySem PySem.Spec PyProof.Rows L2
/-! ### enumerate(text) -/
def IteS (x : Str) : It :=
  ⟨fun i H => i < x.cps.size, fun i H v H' => ∃ T c, v = .ref T ∧ H T = none ∧ H' = upd H T (.tup [.int (i : Nat), .str ⟨#[c]⟩]) ∧ x.cps[i]? = some c, fun i H => i = x.cps.size⟩
theorem turn_enumS {P : Program} {w : World} {K : PySem.W.Frag} {elts : List Expr} {kk : Nat} {tpos : Pos} (x : Str) (t : Tok) (e it : Addr) :
    Turn P w K (.Tuple elts kk tpos) (IteS x) [e, it] e (fun i h => (∃ old, IsEnum h e it ((i : Nat) : Int) old) ∧ h.IsStrIter it (strIterType x) x t i ∧ e ≠ it) where
  mem := by simp
  obj := fun i h st b hb => by
    obtain ⟨⟨old, he⟩, ⟨o, ho, hc, hd⟩, _⟩ := st
    have eb : b = e ∨ b = it := by simpa using hb
    rcases eb with y | y <;> rw [y]
    · exact ⟨_, he, fun v q => nomatch q⟩
    · exact ⟨o, ho, fun v q => by rw [hd] at q; cases q⟩
  keep := fun i h h' st k => let ⟨⟨old, he⟩, ⟨o, ho, r⟩, ne⟩ := st; ⟨⟨old, k e (by simp) _ he⟩, ⟨o, k it (by simp) o ho, r⟩, ne⟩
  item := by
    intro X hP hw hK hc i pins s σ H E I hf st hg
    subst hP hw hK
    obtain ⟨⟨old, he⟩, hit, ne⟩ := st
    have hel : e < s.heap.objs.size := Heap.lt_size he
    have hil : it < s.heap.objs.size := by obtain ⟨_, q, _⟩ := hit; exact Heap.lt_size q
    have hd0 : X.A.in1.handled = none := I.ok.hd hc
    refine wpAny_pyNext_enum_itemD (Draws.text hd0 it x t) he hit hg ne (by simp [ne]) fun u' h' tk hP2 ho st2 hT hsz hk => ?_
    obtain ⟨c, u, hx, rfl⟩ := hP2
    refine ⟨_, rfl, wpAny_letOwnedTupleGo_enum (s := { s with heap := h', toks := tk + 1 }) ho fun h'' he' sb => ?_⟩
    have hT2 : h''.get? s.heap.objs.size = some { cls := .type "tuple", data := .seq #[.int i tk, .str ⟨#[c]⟩ u] } := (sb.2 _ (Nat.ne_of_gt hel)).trans hT
    have new : ObjOk X.prog X.w (upd H s.heap.objs.size (.tup [.int (i : Nat), .str ⟨#[c]⟩])) h'' s.heap.objs.size (.tup [.int (i : Nat), .str ⟨#[c]⟩]) := ⟨by show 2 ≤ sizeLine; decide, [.int i tk, .str ⟨#[c]⟩ u], .cons ⟨_, rfl⟩ (.cons ⟨_, rfl⟩ .nil), ⟨_, hT2, rfl, _, rfl⟩⟩
    have I1 : Inv X pins σ (upd H s.heap.objs.size (.tup [.int (i : Nat), .str ⟨#[c]⟩])) { s with heap := h'', toks := tk + 1 } :=
      I.turnedNew (ch := [e, it]) (fun b ob hb q => (sb.2 b (fun z => hb (by simp [z]))).trans (hk b ob (fun z => hb (by simp [z])) (fun z => hb (by simp [z])) q)) hf (Nat.le_refl _) new
    refine ⟨.ref s.heap.objs.size, _, I1, rfl, ⟨_, c, rfl, I.hok.fresh (Nat.le_refl _), rfl, hx⟩, ⟨⟨.str ⟨#[c]⟩ u, ?_⟩, ?_, ne⟩, fun b hb => ?_⟩
    · rw [show ((i + 1 : Nat) : Int) = (i : Int) + 1 by omega]; exact he'
    · obtain ⟨o, q, r⟩ := st2
      exact ⟨o, (sb.2 it (Ne.symm ne)).trans q, r⟩
    · have eb : b = e ∨ b = it := by simpa using hb
      have hb' : b < s.heap.objs.size := by rcases eb with y | y <;> rw [y] <;> assumption
      rw [upd_ne (Nat.ne_of_lt hb')]; exact (hf b hb).1
  done := by
    intro X hP hw hK hc i pins s σ H E I hf st hg
    subst hP hw hK
    obtain ⟨⟨old, he⟩, hit, ne⟩ := st
    obtain ⟨f0, f1, f2, f3, f4, f5⟩ := hf it (by simp)
    have hd0 : X.A.in1.handled = none := I.ok.hd hc
    have hi : i = x.cps.size := hg
    refine wpAny_pyNext_enum_endD (Draws.text hd0 it x t) he (by rw [← hi]; exact hit) fun h' eb => ?_
    exact ⟨rfl, I.turned (t' := s.toks) (fun b o hb q => eb b o hb q) f0 f1 f3 f4 f5⟩
  self := fun A i s Q E st h => let ⟨⟨_, he⟩, _⟩ := st; wpAny_pyIter_enum he h
def iEnumS (ta : TA) : TI := fun σ H R => ta σ H fun vs H1 => ∃ x, vs = [.str x] ∧ R (IteS x) H1
theorem pi_enumS {X : Cx} {e : Expr} {ta : TA} {p pos tpos : Pos} {elts : List Expr} {kk : Nat} (hg : Gl X "enumerate") (hm : X.mg "enumerate" = none) (ha : PA X [e] ta) (hs : starEach [e] X.env = [(false, eval e X.env)] := by rfl) :
    PI X (.Tuple elts kk tpos) (.Call (.Name "enumerate" p) [e] [] pos) (iEnumS ta) := by
  refine ⟨fun pins s σ H R I h => Call_ (ld_blt I hg hm boot_enumerate (PyProof.Rows.callWith_type1 (thn (ha.run pos pins s σ H _ I h) fun us s1 ⟨vs, H1, I1, r1, q1⟩ => ?_) hs rfl))⟩
  obtain ⟨x, rfl, q⟩ := q1
  cases r1 with
  | cons r rr =>
    cases rr; obtain ⟨t, rfl⟩ := r
    refine call_enumerate_str fun h' he hit hsz hk => wpAny_pyIter_enum he ?_
    have I2 : Inv X pins σ H1 { s1 with heap := h' } := I1.kept (t' := s1.toks) hk
    refine ⟨s1.heap.objs.size + 1, [s1.heap.objs.size + 1, s1.heap.objs.size], _, _, H1, rfl, I2, turn_enumS x t (s1.heap.objs.size + 1) s1.heap.objs.size, ⟨⟨.none, he⟩, hit, Nat.succ_ne_self _⟩, fun b hb => ?_, q⟩
    have hle : s1.heap.objs.size ≤ b := by
      have eb : b = s1.heap.objs.size + 1 ∨ b = s1.heap.objs.size := by simpa using hb
      rcases eb with y | y <;> rw [y]
      · exact Nat.le_add_right _ _
      · exact Nat.le_refl _
    exact I1.fpOk hle (I1.hok.fresh hle)
theorem for_enumS {x : Str} {g : TG} {tb : TS} {D : Ends} {σ : L2.St} {H : Hp} (Pv : Nat → L2.St → Hp → Prop) (h0 : Pv 0 σ H)
    (hs : ∀ (i c : Nat) (T : Addr) (σ : L2.St) (H : Hp), x.cps[i]? = some c → Pv i σ H → H T = none → g (.ref T) σ (upd H T (.tup [.int (i : Nat), .str ⟨#[c]⟩])) fun σ2 H2 => tb { D with nx := Pv (i + 1), ct := Pv (i + 1), bk := D.nx } σ2 H2) (hd : ∀ σ H, Pv x.cps.size σ H → D.nx σ H) :
    ∃ W : Nat → Nat → L2.St → Hp → Prop, (∃ m, W 0 m σ H) ∧ ∀ i m σ H, W i m σ H →
      ((IteS x).stop i H ∧ D.nx σ H) ∨ ((IteS x).go i H ∧ ∃ N : L2.St → Hp → Prop, (∀ σ' H', N σ' H' → ∃ m', m' < m ∧ W (i + 1) m' σ' H') ∧ ∀ v H', (IteS x).yld i H v H' → g v σ H' fun σ2 H2 => tb { D with nx := N, ct := N, bk := D.nx } σ2 H2) := by
  refine ⟨fun i m σ H => m = x.cps.size - i ∧ i ≤ x.cps.size ∧ Pv i σ H, ⟨x.cps.size, rfl, Nat.zero_le _, h0⟩, fun i m σ H => ?_⟩
  rintro ⟨rfl, hi, p⟩
  by_cases hlt : i < x.cps.size
  · refine .inr ⟨hlt, Pv (i + 1), fun σ' H' p' => ⟨x.cps.size - (i + 1), by omega, rfl, hlt, p'⟩, fun v H' y => ?_⟩
    obtain ⟨T, c, rfl, hT, rfl, f1⟩ := y
    exact hs i c T σ H f1 p hT
  · obtain rfl : i = x.cps.size := by omega
    exact .inl ⟨rfl, hd σ H p⟩
/-! ### zip(text, text) -/
def ItzS (x y : Str) : It :=
  ⟨fun i H => i < x.cps.size ∧ i < y.cps.size, fun i H v H' => ∃ T c d, v = .ref T ∧ H T = none ∧ H' = upd H T (.tup [.str ⟨#[c]⟩, .str ⟨#[d]⟩]) ∧ x.cps[i]? = some c ∧ y.cps[i]? = some d,
    fun i H => i ≤ x.cps.size ∧ i ≤ y.cps.size ∧ (i = x.cps.size ∨ i = y.cps.size)⟩
theorem turn_zipS {P : Program} {w : World} {K : PySem.W.Frag} {elts : List Expr} {kk : Nat} {tpos : Pos} (x y : Str) (t1 t2 : Tok) {z TI TO i1 i2 : Addr} (S : ZipSep2 z TI TO i1 i2 [i1] [i2]) :
    Turn P w K (.Tuple elts kk tpos) (ItzS x y) [z, TI, TO, i1, i2] z (fun i h => IsZip h z TI TO .none ∧ IsTupOf2 h TI (.ref i1) (.ref i2) ∧ (∃ a b, IsTupOf2 h TO a b) ∧ h.IsStrIter i1 (strIterType x) x t1 i ∧ h.IsStrIter i2 (strIterType y) y t2 i) where
  mem := by simp
  obj := fun i h st c hc => by
    obtain ⟨hz, hTI, ⟨a, b, hTO⟩, ⟨o1, e1, _, d1⟩, ⟨o2, e2, _, d2⟩⟩ := st
    have e' : c = z ∨ c = TI ∨ c = TO ∨ c = i1 ∨ c = i2 := by simpa using hc
    rcases e' with q | q | q | q | q
    · rw [q]; exact ⟨_, hz, fun v q => nomatch q⟩
    · rw [q]; exact ⟨_, hTI, fun v q => nomatch q⟩
    · rw [q]; exact ⟨_, hTO, fun v q => nomatch q⟩
    · rw [q]; exact ⟨o1, e1, fun v q => by rw [d1] at q; cases q⟩
    · rw [q]; exact ⟨o2, e2, fun v q => by rw [d2] at q; cases q⟩
  keep := fun i h h' st k => by
    obtain ⟨hz, hTI, ⟨a, b, hTO⟩, ⟨o1, e1, r1⟩, ⟨o2, e2, r2⟩⟩ := st
    exact ⟨k z (by simp) _ hz, k TI (by simp) _ hTI, ⟨a, b, k TO (by simp) _ hTO⟩, ⟨o1, k i1 (by simp) o1 e1, r1⟩, ⟨o2, k i2 (by simp) o2 e2, r2⟩⟩
  item := by
    intro X hP hw hK hc i pins s σ H E I hf st hg
    subst hP hw hK
    obtain ⟨hz, hTI, ⟨a0, b0, hTO⟩, h1, h2⟩ := st
    obtain ⟨hlt1, hlt2⟩ := hg
    have hzl : z < s.heap.objs.size := Heap.lt_size hz
    have hd0 : X.A.in1.handled = none := I.ok.hd hc
    refine wpAny_pyNext_zipD2_item S (Draws.text hd0 i1 x t1) (Draws.text hd0 i2 y t2) hz hTI hTO h1 h2 hlt1 hlt2 fun x1 x2 h' tk p1 p2 z' TO' h1' h2' hT hsz hk => ?_
    obtain ⟨c, u, hx, rfl⟩ := p1
    obtain ⟨d, u2, hy, rfl⟩ := p2
    refine ⟨_, rfl, wpAny_letOwnedTupleGo_zip (s := { s with heap := h', toks := tk }) z' fun h'' z'' sb => ?_⟩
    have hT2 : h''.get? s.heap.objs.size = some { cls := .type "tuple", data := .seq #[.str ⟨#[c]⟩ u, .str ⟨#[d]⟩ u2] } := (sb.2 _ (Nat.ne_of_gt hzl)).trans hT
    have new : ObjOk X.prog X.w (upd H s.heap.objs.size (.tup [.str ⟨#[c]⟩, .str ⟨#[d]⟩])) h'' s.heap.objs.size (.tup [.str ⟨#[c]⟩, .str ⟨#[d]⟩]) :=
      ⟨by show 2 ≤ sizeLine; decide, [.str ⟨#[c]⟩ u, .str ⟨#[d]⟩ u2], .cons ⟨_, rfl⟩ (.cons ⟨_, rfl⟩ .nil), ⟨_, hT2, rfl, _, rfl⟩⟩
    have I1 : Inv X pins σ (upd H s.heap.objs.size (.tup [.str ⟨#[c]⟩, .str ⟨#[d]⟩])) { s with heap := h'', toks := tk } :=
      I.turnedNew (ch := [z, TI, TO, i1, i2]) (fun c o hb q => (sb.2 c (fun q' => hb (by simp [q']))).trans (hk c o (fun q' => hb (by simp [q'])) (fun q' => hb (by simp [q'])) (fun q' => hb (by simp [q'])) (fun q' => hb (by simp [q'])) q)) hf (Nat.le_refl _) new
    refine ⟨.ref s.heap.objs.size, _, I1, rfl, ⟨_, c, d, rfl, I.hok.fresh (Nat.le_refl _), rfl, hx, hy⟩, ⟨z'', ?_, ⟨.str ⟨#[c]⟩ u, .str ⟨#[d]⟩ u2, ?_⟩, ?_, ?_⟩, fun c hcm => ?_⟩
    · exact (sb.2 _ S.TIz).trans (hk _ _ S.TIz S.TITO S.TIi1 S.TIi2 hTI)
    · exact (sb.2 _ S.TOz).trans TO'
    · obtain ⟨o, q, r⟩ := h1'
      exact ⟨o, (sb.2 _ (Ne.symm S.zi1)).trans q, r⟩
    · obtain ⟨o, q, r⟩ := h2'
      exact ⟨o, (sb.2 _ (Ne.symm S.zi2)).trans q, r⟩
    · have hlt : c < s.heap.objs.size := by
        have e' : c = z ∨ c = TI ∨ c = TO ∨ c = i1 ∨ c = i2 := by simpa using hcm
        rcases e' with q | q | q | q | q
        · rw [q]; exact hzl
        · rw [q]; exact Heap.lt_size hTI
        · rw [q]; exact Heap.lt_size hTO
        · rw [q]; obtain ⟨_, e1, _⟩ := h1; exact Heap.lt_size e1
        · rw [q]; obtain ⟨_, e2, _⟩ := h2; exact Heap.lt_size e2
      rw [upd_ne (Nat.ne_of_lt hlt)]
      exact (hf c hcm).1
  done := by
    intro X hP hw hK hc i pins s σ H E I hf st hg
    subst hP hw hK
    obtain ⟨hz, hTI, ⟨a0, b0, hTO⟩, h1, h2⟩ := st
    obtain ⟨l1, l2, hend⟩ := hg
    have hd0 : X.A.in1.handled = none := I.ok.hd hc
    exact wpAny_pyNext_zipD2_end S (Draws.text hd0 i1 x t1) (Draws.text hd0 i2 y t2) hz hTI hTO h1 h2 l1 l2 hend fun h' tk hk => ⟨rfl, I.turnedL (t' := tk) (ch := [z, TI, TO, i1, i2]) (fun c o hb q =>
      hk c o (fun q' => hb (by simp [q'])) (fun q' => hb (by simp [q'])) (fun q' => hb (by simp [q'])) (fun q' => hb (by simp [q'])) q) hf⟩
  self := fun A i s Q E st h => wpAny_pyIter_zip st.1 h
def iZipS (ta : TA) : TI := fun σ H R => ta σ H fun vs H1 => ∃ x y, vs = [.str x, .str y] ∧ R (ItzS x y) H1
theorem pi_zipS {X : Cx} {e e2 : Expr} {ta : TA} {p pos tpos : Pos} {elts : List Expr} {kk : Nat} (hg : Gl X "zip") (hm : X.mg "zip" = none) (ha : PA X [e, e2] ta)
    (hs : starEach [e, e2] X.env = (false, eval e X.env) :: starEach [e2] X.env := by rfl) (hpl : (backTo pos (starEach [e2] X.env)).any (·.1) = false := by rfl) :
    PI X (.Tuple elts kk tpos) (.Call (.Name "zip" p) [e, e2] [] pos) (iZipS ta) := by
  refine ⟨fun pins s σ H R I h => ?_⟩
  refine Call_ (ld_blt I hg hm PyProof.Rows.boot_zip (PyProof.Rows.callWith_type1 (thn (ha.run pos pins s σ H _ I h) fun us s1 ⟨vs, H1, I1, r1, q1⟩ => ?_) hs hpl))
  obtain ⟨x, y, rfl, q⟩ := q1
  cases r1 with
  | cons r rr =>
    cases rr with
    | cons r' rr =>
      cases rr
      obtain ⟨t1, rfl⟩ := r
      obtain ⟨t2, rfl⟩ := r'
      have fresh5 : ∀ c, c ∈ [s1.heap.objs.size + 4, s1.heap.objs.size + 2, s1.heap.objs.size + 3, s1.heap.objs.size, s1.heap.objs.size + 1] → FpOk X pins H1 c := fun c hcm => by
        have e' : c = s1.heap.objs.size + 4 ∨ c = s1.heap.objs.size + 2 ∨ c = s1.heap.objs.size + 3 ∨ c = s1.heap.objs.size ∨ c = s1.heap.objs.size + 1 := by simpa using hcm
        have hle : s1.heap.objs.size ≤ c := by
          rcases e' with z | z | z | z | z
          · rw [z]; exact Nat.le_add_right _ _
          · rw [z]; exact Nat.le_add_right _ _
          · rw [z]; exact Nat.le_add_right _ _
          · rw [z]; exact Nat.le_refl _
          · rw [z]; exact Nat.le_add_right _ _
        exact I1.fpOk hle (I1.hok.fresh hle)
      refine zip_begins2 (begins_text x t1) (begins_text y t2) trivial trivial fun h' hz hTI hTO g1 g2 hsz hk => wpAny_pyIter_zip hz ?_
      have I2 : Inv X pins σ H1 { s1 with heap := h' } := I1.kept (t' := s1.toks) hk
      refine ⟨s1.heap.objs.size + 4, [s1.heap.objs.size + 4, s1.heap.objs.size + 2, s1.heap.objs.size + 3, s1.heap.objs.size, s1.heap.objs.size + 1], _, _, H1, rfl, I2, turn_zipS x y t1 t2 ?_, ⟨hz, hTI, ⟨_, _, hTO⟩, ⟨_, g1, rfl, rfl⟩, ⟨_, g2, rfl, rfl⟩⟩, fresh5, q⟩
      constructor <;> simp
theorem for_zipS {x y : Str} {g : TG} {tb : TS} {D : Ends} {σ : L2.St} {H : Hp} (n : Nat) (hn : n = min x.cps.size y.cps.size) (Pv : Nat → L2.St → Hp → Prop) (h0 : Pv 0 σ H)
    (hs : ∀ (i c d : Nat) (T : Addr) (σ : L2.St) (H : Hp), i < n → x.cps[i]? = some c → y.cps[i]? = some d → Pv i σ H → H T = none → g (.ref T) σ (upd H T (.tup [.str ⟨#[c]⟩, .str ⟨#[d]⟩])) fun σ2 H2 => tb { D with nx := Pv (i + 1), ct := Pv (i + 1), bk := D.nx } σ2 H2) (hd : ∀ σ H, Pv n σ H → D.nx σ H) :
    ∃ W : Nat → Nat → L2.St → Hp → Prop, (∃ m, W 0 m σ H) ∧ ∀ i m σ H, W i m σ H →
      ((ItzS x y).stop i H ∧ D.nx σ H) ∨ ((ItzS x y).go i H ∧ ∃ N : L2.St → Hp → Prop, (∀ σ' H', N σ' H' → ∃ m', m' < m ∧ W (i + 1) m' σ' H') ∧ ∀ v H', (ItzS x y).yld i H v H' → g v σ H' fun σ2 H2 => tb { D with nx := N, ct := N, bk := D.nx } σ2 H2) := by
  refine ⟨fun i m σ H => m = n - i ∧ i ≤ n ∧ Pv i σ H, ⟨n, rfl, Nat.zero_le _, h0⟩, fun i m σ H => ?_⟩
  rintro ⟨rfl, hi, p⟩
  by_cases hlt : i < n
  · refine .inr ⟨⟨by omega, by omega⟩, Pv (i + 1), fun σ' H' p' => ⟨n - (i + 1), by omega, rfl, hlt, p'⟩, fun v H' y => ?_⟩
    obtain ⟨T, c, d, rfl, hT, rfl, f1, f2⟩ := y
    exact hs i c d T σ H hlt f1 f2 p hT
  · obtain rfl : i = n := by omega
    exact .inl ⟨⟨by omega, by omega, by omega⟩, hd σ H p⟩
theorem for_enumL {K : PySem.W.Frag} {a : Addr} {xs : List V} {g : TG} {tb : TS} {D : Ends} {σ : L2.St} {H : Hp} (Pv : Nat → L2.St → Hp → Prop) (h0 : Pv 0 σ H) (hq : ∀ i σ H, Pv i σ H → SqL K H a xs)
    (hs : ∀ (i : Nat) (x : V) (T : Addr) (σ : L2.St) (H : Hp), xs[i]? = some x → Pv i σ H → H T = none → g (.ref T) σ (upd H T (.tup [.int (i : Nat), x])) fun σ2 H2 => tb { D with nx := Pv (i + 1), ct := Pv (i + 1), bk := D.nx } σ2 H2) (hd : ∀ σ H, Pv xs.length σ H → D.nx σ H) :
    ∃ W : Nat → Nat → L2.St → Hp → Prop, (∃ m, W 0 m σ H) ∧ ∀ i m σ H, W i m σ H →
      ((Ite K a).stop i H ∧ D.nx σ H) ∨ ((Ite K a).go i H ∧ ∃ N : L2.St → Hp → Prop, (∀ σ' H', N σ' H' → ∃ m', m' < m ∧ W (i + 1) m' σ' H') ∧ ∀ v H', (Ite K a).yld i H v H' → g v σ H' fun σ2 H2 => tb { D with nx := N, ct := N, bk := D.nx } σ2 H2) := by
  refine ⟨fun i m σ H => m = xs.length - i ∧ i ≤ xs.length ∧ Pv i σ H, ⟨xs.length, rfl, Nat.zero_le _, h0⟩, fun i m σ H => ?_⟩
  rintro ⟨rfl, hi, p⟩
  have qx := hq i σ H p
  by_cases hlt : i < xs.length
  · refine .inr ⟨⟨xs, _, qx, List.getElem?_eq_getElem hlt⟩, Pv (i + 1), fun σ' H' p' => ⟨xs.length - (i + 1), by omega, rfl, hlt, p'⟩, fun v H' y => ?_⟩
    obtain ⟨T, x', rfl, hT, rfl, f1⟩ := y
    exact hs i x' T σ H (f1 xs qx) p hT
  · obtain rfl : i = xs.length := by omega
    exact .inl ⟨⟨xs, qx, Nat.le_refl _⟩, hd σ H p⟩
end RJ

set_option maxRecDepth 100000
set_option maxHeartbeats 2000000
namespace R4
open PySem PySem.Spec PyProof.Rows L2
/-! ### comprehensions with two fors -/
section
variable {J J1 : It} {n n1 : Nat} {G G1 : Hp → Prop} {Y Y1 : Nat → Hp → V → Hp → Prop}
/-- the outer for: Pv by the turn and the heap (the new list at D within) -/
theorem lc2_out (w : Walk J n G Y) {g g1 : TG} {tt tt1 : TT} {wi1 : TI} {te : TE} {vs vs1 : List Nat} {σ : L2.St} {H1 : Hp} {D : Addr} {Qd : Hp → Prop} (Pv : Nat → Hp → Prop) (h0 : Pv 0 (upd H1 D (.lst []))) (hG : ∀ i H, i ≤ n → Pv i H → G H)
    (hs : ∀ i x H H', i < n → Pv i H → Y i H x H' → g x (wipe σ vs) H' fun σ2 H2 => wipe σ2 vs = wipe σ vs ∧ tt σ2 H2 fun b H3 =>
      if b = true then wi1 σ2 H3 fun J1 H4 => ∃ W1 : Nat → Nat → Hp → Prop, (∃ m, W1 0 m H4) ∧ ∀ j k H, W1 j k H →
        (J1.stop j H ∧ Pv (i + 1) H) ∨ (J1.go j H ∧ ∃ Nx1 : Hp → Prop, (∀ H', Nx1 H' → ∃ k', k' < k ∧ W1 (j + 1) k' H') ∧ ∀ x H', J1.yld j H x H' → g1 x (wipe σ2 vs1) H' fun σ3 H5 => wipe σ3 vs1 = wipe σ2 vs1 ∧ tt1 σ3 H5 fun b H6 =>
          if b = true then te σ3 H6 fun y H7 => ∃ acc, H7 D = some (.lst acc) ∧ acc.length < sizeLine ∧ Nx1 (upd H7 D (.lst (acc ++ [y]))) else Nx1 H6)
      else Pv (i + 1) H3) (hd : ∀ H, Pv n H → Qd H) :
    ∃ W : Nat → Nat → Hp → Prop, (∃ m, W 0 m (upd H1 D (.lst []))) ∧ ∀ i m H, W i m H →
      (J.stop i H ∧ Qd H) ∨ (J.go i H ∧ ∃ Nx : Hp → Prop, (∀ H', Nx H' → ∃ m', m' < m ∧ W (i + 1) m' H') ∧ ∀ x H', J.yld i H x H' → g x (wipe σ vs) H' fun σ2 H2 => wipe σ2 vs = wipe σ vs ∧ tt σ2 H2 fun b H3 =>
        if b = true then wi1 σ2 H3 fun J1 H4 => ∃ W1 : Nat → Nat → Hp → Prop, (∃ m, W1 0 m H4) ∧ ∀ j k H, W1 j k H →
          (J1.stop j H ∧ Nx H) ∨ (J1.go j H ∧ ∃ Nx1 : Hp → Prop, (∀ H', Nx1 H' → ∃ k', k' < k ∧ W1 (j + 1) k' H') ∧ ∀ x H', J1.yld j H x H' → g1 x (wipe σ2 vs1) H' fun σ3 H5 => wipe σ3 vs1 = wipe σ2 vs1 ∧ tt1 σ3 H5 fun b H6 =>
            if b = true then te σ3 H6 fun y H7 => ∃ acc, H7 D = some (.lst acc) ∧ acc.length < sizeLine ∧ Nx1 (upd H7 D (.lst (acc ++ [y]))) else Nx1 H6)
        else Nx H3) := by
  refine ⟨fun i m H => m = n - i ∧ i ≤ n ∧ Pv i H, ⟨n, by simp, Nat.zero_le _, h0⟩, ?_⟩
  rintro i m H ⟨rfl, hi, p⟩
  have q := hG i H hi p
  by_cases hlt : i < n
  · refine .inr ⟨w.goes i H hlt q, Pv (i + 1), fun H' p' => ⟨n - (i + 1), by omega, rfl, hlt, p'⟩, fun x H' y => hs i x H H' hlt p (w.yields i H x H' hlt q y)⟩
  · have e : i = n := by omega
    subst e
    exact .inl ⟨w.stops H q, hd H p⟩
/-- the inner for -/
theorem lc2_in (w : Walk J1 n1 G1 Y1) {g1 : TG} {tt1 : TT} {te : TE} {vs1 : List Nat} {σ2 : L2.St} {H4 : Hp} {D : Addr} {Nx : Hp → Prop} (Pv : Nat → Hp → Prop) (h0 : Pv 0 H4) (hG : ∀ j H, j ≤ n1 → Pv j H → G1 H)
    (hs : ∀ j x H H', j < n1 → Pv j H → Y1 j H x H' → g1 x (wipe σ2 vs1) H' fun σ3 H5 => wipe σ3 vs1 = wipe σ2 vs1 ∧ tt1 σ3 H5 fun b H6 =>
      if b = true then te σ3 H6 fun y H7 => ∃ acc, H7 D = some (.lst acc) ∧ acc.length < sizeLine ∧ Pv (j + 1) (upd H7 D (.lst (acc ++ [y]))) else Pv (j + 1) H6) (hd : ∀ H, Pv n1 H → Nx H) :
    ∃ W1 : Nat → Nat → Hp → Prop, (∃ m, W1 0 m H4) ∧ ∀ j k H, W1 j k H →
      (J1.stop j H ∧ Nx H) ∨ (J1.go j H ∧ ∃ Nx1 : Hp → Prop, (∀ H', Nx1 H' → ∃ k', k' < k ∧ W1 (j + 1) k' H') ∧ ∀ x H', J1.yld j H x H' → g1 x (wipe σ2 vs1) H' fun σ3 H5 => wipe σ3 vs1 = wipe σ2 vs1 ∧ tt1 σ3 H5 fun b H6 =>
        if b = true then te σ3 H6 fun y H7 => ∃ acc, H7 D = some (.lst acc) ∧ acc.length < sizeLine ∧ Nx1 (upd H7 D (.lst (acc ++ [y]))) else Nx1 H6) := by
  refine ⟨fun i m H => m = n1 - i ∧ i ≤ n1 ∧ Pv i H, ⟨n1, by simp, Nat.zero_le _, h0⟩, ?_⟩
  rintro i m H ⟨rfl, hi, p⟩
  have q := hG i H hi p
  by_cases hlt : i < n1
  · refine .inr ⟨w.goes i H hlt q, Pv (i + 1), fun H' p' => ⟨n1 - (i + 1), by omega, rfl, hlt, p'⟩, fun x H' y => hs i x H H' hlt p (w.yields i H x H' hlt q y)⟩
  · have e : i = n1 := by omega
    subst e
    exact .inl ⟨w.stops H q, hd H p⟩
end
end R4

set_option maxRecDepth 100000
set_option maxHeartbeats 8000000
namespace K37
open PySem PySem.Spec PyProof.Rows L2
/-! ### pieces and blocks -/
/-- a piece: its tuple, its height, its tie (a word, perhaps a number), its notes, its calls -/
structure Pc where
  t : Addr
  h : Int
  ti : Addr
  tw : Str
  tn : Option Int
  no : Addr
  notes : List Int
  ca : Addr
  calls : List Int
structure Bk where
  t : Addr
  a : Int
  b : Int
  c : Int
  f : Bool
  pt : Addr
  ps : List Pc
def tieV (p : Pc) : List V := .str p.tw :: p.tn.toList.map V.int
def pv' (ps : List Pc) : List V := ps.map fun p => V.ref p.t
def bv (bs : List Bk) : List V := bs.map fun b => V.ref b.t
def words : List Str := [Str.ofString "blank", Str.ofString "end", Str.ofString "joint"]
def PcT (H : Hp) (p : Pc) : Prop := H p.t = some (.tup [.int p.h, .ref p.ti, .ref p.no, .ref p.ca]) ∧ H p.ti = some (.tup (tieV p)) ∧ p.tw ∈ words ∧ H p.no = some (.tup (p.notes.map V.int)) ∧ p.notes.length ≤ 4 ∧ H p.ca = some (.tup (p.calls.map V.int)) ∧ p.calls.length ≤ 4
def BkT (H : Hp) (b : Bk) : Prop := H b.t = some (.tup [.int b.a, .int b.b, .int b.c, .bl b.f, .ref b.pt]) ∧ H b.pt = some (.tup (pv' b.ps)) ∧ b.ps.length ≤ 50 ∧ ∀ p ∈ b.ps, PcT H p
theorem PcT.kp {H H' : Hp} {p : Pc} (h : PcT H p) (s : Kp H H') : PcT H' p := ⟨s.tup h.1, s.tup h.2.1, h.2.2.1, s.tup h.2.2.2.1, h.2.2.2.2.1, s.tup h.2.2.2.2.2.1, h.2.2.2.2.2.2⟩
theorem BkT.kp {H H' : Hp} {b : Bk} (h : BkT H b) (s : Kp H H') : BkT H' b := ⟨s.tup h.1, s.tup h.2.1, h.2.2.1, fun p hp => (h.2.2.2 p hp).kp s⟩
def pcs (bs : List Bk) : List Pc := bs.flatMap (·.ps)
def figs (ps : List Pc) : List Int := ps.flatMap (·.calls)
def BsT (H : Hp) (bs : List Bk) : Prop := ∀ b ∈ bs, BkT H b
theorem BsT.kp {H H' : Hp} {bs : List Bk} (h : BsT H bs) (s : Kp H H') : BsT H' bs := fun b hb => (h b hb).kp s
theorem BsT.pcs {H : Hp} {bs : List Bk} (h : BsT H bs) : ∀ p ∈ pcs bs, PcT H p := fun p hp => by
  obtain ⟨b, hb, hp⟩ := List.mem_flatMap.mp hp
  exact (h b hb).2.2.2 p hp
def Small (bs : List Bk) : Prop := bs.length ≤ 200 ∧ (pcs bs).length ≤ 200
theorem figs_len {H : Hp} : ∀ {ps : List Pc}, (∀ p ∈ ps, PcT H p) → (figs ps).length ≤ 4 * ps.length
  | [], _ => Nat.le_refl _
  | p :: ps, h => by
    have h1 := (h p List.mem_cons_self).2.2.2.2.2.2
    have h2 := figs_len (ps := ps) fun q hq => h q (List.mem_cons_of_mem _ hq)
    show (p.calls ++ figs ps).length ≤ _
    rw [List.length_append, List.length_cons]; omega
theorem flat_take {α β : Type} (f : α → List β) {l : List α} {i : Nat} {x : α} (h : l[i]? = some x) : (l.take (i + 1)).flatMap f = (l.take i).flatMap f ++ f x := by
  rw [List.take_add_one, h, List.flatMap_append]; simp
theorem flat_le {α β : Type} (f : α → List β) : ∀ {l : List α} {i : Nat} {x : α}, l[i]? = some x → ((l.take i).flatMap f).length + (f x).length ≤ (l.flatMap f).length
  | [], _, _, h => by cases h
  | y :: l, 0, x, h => by
    cases h
    rw [List.take_zero, List.flatMap_nil, List.flatMap_cons, List.length_append, List.length_nil]; omega
  | y :: l, i + 1, x, h => by
    have := flat_le f (l := l) (i := i) h
    rw [List.take_succ_cons, List.flatMap_cons, List.flatMap_cons, List.length_append, List.length_append]; omega
theorem bv_at {bs : List Bk} {i : Nat} {b : Bk} (h : bs[i]? = some b) : (bv bs)[i]? = some (.ref b.t) := by unfold bv; rw [List.getElem?_map, h]; rfl
theorem pv_at {bs : List Pc} {i : Nat} {b : Pc} (h : bs[i]? = some b) : (pv' bs)[i]? = some (.ref b.t) := by unfold pv'; rw [List.getElem?_map, h]; rfl
theorem bv_len (bs : List Bk) : (bv bs).length = bs.length := by unfold bv; rw [List.length_map]
theorem pv_len (ps : List Pc) : (pv' ps).length = ps.length := by unfold pv'; rw [List.length_map]
theorem pv_snoc {ps : List Pc} {p : Pc} : pv' ps ++ [.ref p.t] = pv' (ps ++ [p]) := by unfold pv'; rw [List.map_append]; rfl
theorem of_bv {bs : List Bk} {i : Nat} {x : V} (h : (bv bs)[i]? = some x) : ∃ b, bs[i]? = some b ∧ x = .ref b.t := by
  unfold bv at h
  rw [List.getElem?_map] at h
  obtain ⟨b, hb, e⟩ := Option.map_eq_some_iff.mp h
  exact ⟨b, hb, e.symm⟩
theorem of_pv {ps : List Pc} {i : Nat} {x : V} (h : (pv' ps)[i]? = some x) : ∃ p, ps[i]? = some p ∧ x = .ref p.t := by
  unfold pv' at h
  rw [List.getElem?_map] at h
  obtain ⟨b, hb, e⟩ := Option.map_eq_some_iff.mp h
  exact ⟨b, hb, e.symm⟩
/-- blocks handed over: a list of them, or the empty tuple of the text -/
def Arg (K : PySem.W.Frag) (H : Hp) (a : Addr) (bs : List Bk) : Prop := H a = some (.lst (bv bs)) ∨ (bs = [] ∧ SqT K H a [])
theorem pi_tupK {X : Cx} {K : PySem.W.Frag} (hK : X.K = K) {tg l : Expr} {tl : TE} (hl : PE X l tl) : PI X tg l (iTup K tl) := by subst hK; exact pi_tup hl
theorem pi_listK {X : Cx} {K : PySem.W.Frag} (hK : X.K = K) {tg l : Expr} {tl : TE} (hl : PE X l tl) : PI X tg l (iList K tl) := by subst hK; exact pi_list hl
section
variable {P : Program} {w : World} {K : PySem.W.Frag} {mg : Str → Option Value} {base : Heap}
/-! ### _pieces_of -/
def spPieces (K : PySem.W.Frag) : Sp := fun vs H Q _ => ∃ (a : Addr) (bs : List Bk), vs = [.ref a] ∧ Arg K H a bs ∧ BsT H bs ∧ Small bs ∧ ∀ H' p, Same H H' → H p = none → H' p = some (.lst (pv' (pcs bs))) → Q (.ref p) H'
abbrev nPieces : List Str := ["blocks", "block", "piece"]
theorem scPieces : FnScope nPieces ["blocks"] (defScope sPieces) := ⟨rfl, rfl, rfl, by decide +kernel, rfl, by decide +kernel, by decide +kernel⟩
theorem ok_pieces {f : Addr} {fd : FuncData} (F : Fun K "_pieces_of" "_pieces_of" sPieces f fd) : FnOk P w K mg base CX0 1 f fd ["blocks"] (spPieces K) := by
  refine F.ok scPieces (fun vs H Q E h => ?_) (fun cdv A0 outer s H vs Q E hr h => ?_)
  · obtain ⟨a, bs, rfl, _⟩ := h; rfl
  · obtain ⟨a, bs, rfl, harg, hb, ⟨hs1, hs2⟩, q⟩ := h
    rcases harg with ha | ⟨rfl, ha⟩
    · refine ⟨_, pss_one (ps_ret (pe_lc2 (own := [("block", 1), ("piece", 2)]) (vs1 := [2]) (g := gName 1) (g1 := gName 2) (tt := tYes) (tt1 := tYes) rfl scPieces.nd (pi_list (pv 0)) (blkOk_by (N := nPieces) (sc := defScope sPieces) (by decide +kernel)) (by decide) (fun _ _ _ _ _ => pg_name (i := 1) scPieces.nd rfl (.inl rfl)) (fun _ _ _ _ _ => pts_nil) (fun _ _ _ _ _ => pi_tupK (K := K) rfl (pe_ix (show IxR _ (rIxT K) from ix_tup) (pv 1) pe_int (fun _ _ => rfl))) (fun _ _ _ _ _ => pg_name (i := 2) scPieces.nd rfl (.inl rfl)) (fun _ _ _ _ _ => pts_nil) (fun _ _ _ _ _ => pv 2))), ?_⟩
      refine ⟨.ref a, rfl, a, rfl, ⟨_, SqL.of ha⟩, fun D hD => ?_⟩
      refine R4.lc2_out (walk_list (K := K) (a := a) (xs := bv bs)) (fun i H' => H' D = some (.lst (pv' (pcs (bs.take i)))) ∧ Same H H') ⟨upd_same, same_new hD⟩ (fun i H' _ ⟨_, s⟩ => SqL.of (s _ _ ha)) ?_ ?_
      · rintro i v H2 H2' hi ⟨hD2, s2⟩ ⟨rfl, hv⟩
        obtain ⟨b, en, rfl⟩ := of_bv hv
        obtain ⟨h1, h2, h3, h4⟩ := (hb b (List.mem_of_getElem? en)).kp (Kp.of s2)
        have hle := flat_le (·.ps) en
        refine ⟨rfl, .ref b.t, rfl, b.t, _, 4, .ref b.pt, rfl, rfl, SqT.of h1, rfl, b.pt, rfl, ⟨_, SqT.of h2⟩, ?_⟩
        refine R4.lc2_in (walk_tup (K := K) (a := b.pt) (xs := pv' b.ps)) (fun j H' => H' D = some (.lst (pv' (pcs (bs.take i) ++ b.ps.take j))) ∧ Same H H') ⟨by rw [List.take_zero, List.append_nil]; exact hD2, s2⟩ (fun j H' _ ⟨_, s⟩ => SqT.of (((hb b (List.mem_of_getElem? en)).kp (Kp.of s)).2.1)) ?_ ?_
        · rintro j x H3 H3' hj ⟨hD3, s3⟩ ⟨rfl, hx⟩
          obtain ⟨p, ep, rfl⟩ := of_pv hx
          have hjl := (List.getElem?_eq_some_iff.mp ep).1
          refine ⟨rfl, .ref p.t, rfl, _, hD3, ?_, ?_, same_at s3 hD⟩
          · rw [pv_len, List.length_append, List.length_take]
            exact small1000 (by show (List.flatMap _ _).length + _ ≤ _; unfold pcs at hs2; omega)
          · rw [upd_same, pv_snoc, List.take_add_one, ep, List.append_assoc]; rfl
        · rintro H3 ⟨hD3, s3⟩
          rw [pv_len, List.take_length] at hD3
          exact ⟨by unfold pcs; rw [flat_take _ en]; exact hD3, s3⟩
      · rintro H2 ⟨hD2, s2⟩
        rw [bv_len, List.take_length] at hD2
        exact q H2 D s2 hD hD2
    · refine ⟨_, pss_one (ps_ret (pe_lc2 (own := [("block", 1), ("piece", 2)]) (vs1 := [2]) (g := gName 1) (g1 := gName 2) (tt := tYes) (tt1 := tYes) rfl scPieces.nd (pi_tup (pv 0)) (blkOk_by (N := nPieces) (sc := defScope sPieces) (by decide +kernel)) (by decide) (fun _ _ _ _ _ => pg_name (i := 1) scPieces.nd rfl (.inl rfl)) (fun _ _ _ _ _ => pts_nil) (fun _ _ _ _ _ => pi_tupK (K := K) rfl (pe_ix (show IxR _ (rIxT K) from ix_tup) (pv 1) pe_int (fun _ _ => rfl))) (fun _ _ _ _ _ => pg_name (i := 2) scPieces.nd rfl (.inl rfl)) (fun _ _ _ _ _ => pts_nil) (fun _ _ _ _ _ => pv 2))), ?_⟩
      refine ⟨.ref a, rfl, a, rfl, ⟨_, ha⟩, fun D hD => ?_⟩
      refine R4.lc2_out (walk_tup (K := K) (a := a) (xs := [])) (fun i H' => H' D = some (.lst []) ∧ Same H H' ∧ SqT K H' a []) ⟨upd_same, same_new hD, ?_⟩ (fun i H' _ ⟨_, _, s⟩ => s) (fun i v H2 H2' hi => absurd hi (Nat.not_lt_zero _)) ?_
      · rcases ha with ha | ha
        · rcases ha with ha | ⟨o, ha⟩
          · exact .inl (.inl (same_new hD _ _ ha))
          · exact .inl (.inr ⟨o, same_new hD _ _ ha⟩)
        · exact .inr ha
      · rintro H2 ⟨hD2, s2, _⟩
        exact q H2 D s2 hD hD2
/-! ### _figures_of -/
def spFigures (K : PySem.W.Frag) : Sp := fun vs H Q _ => ∃ (a : Addr) (ps : List Pc), vs = [.ref a] ∧ H a = some (.lst (pv' ps)) ∧ (∀ p ∈ ps, PcT H p) ∧ ps.length ≤ 200 ∧ ∀ H' p, Same H H' → H p = none → H' p = some (.lst ((figs ps).map V.int)) → Q (.ref p) H'
abbrev nFigures : List Str := ["pieces", "piece", "height"]
theorem scFigures : FnScope nFigures ["pieces"] (defScope sFigures) := ⟨rfl, rfl, rfl, by decide +kernel, rfl, by decide +kernel, by decide +kernel⟩
theorem ok_figures {f : Addr} {fd : FuncData} (F : Fun K "_figures_of" "_figures_of" sFigures f fd) : FnOk P w K mg base CX0 1 f fd ["pieces"] (spFigures K) := by
  refine F.ok scFigures (fun vs H Q E h => ?_) (fun cdv A0 outer s H vs Q E hr h => ?_)
  · obtain ⟨a, ps, rfl, _⟩ := h; rfl
  · obtain ⟨a, ps, rfl, ha, hb, hs, q⟩ := h
    have hfl := figs_len hb
    refine ⟨_, pss_one (ps_ret (pe_lc2 (own := [("piece", 1), ("height", 2)]) (vs1 := [2]) (g := gName 1) (g1 := gName 2) (tt := tYes) (tt1 := tYes) rfl scFigures.nd (pi_list (pv 0)) (blkOk_by (N := nFigures) (sc := defScope sFigures) (by decide +kernel)) (by decide) (fun _ _ _ _ _ => pg_name (i := 1) scFigures.nd rfl (.inl rfl)) (fun _ _ _ _ _ => pts_nil) (fun _ _ _ _ _ => pi_tupK (K := K) rfl (pe_ix (show IxR _ (rIxT K) from ix_tup) (pv 1) pe_int (fun _ _ => rfl))) (fun _ _ _ _ _ => pg_name (i := 2) scFigures.nd rfl (.inl rfl)) (fun _ _ _ _ _ => pts_nil) (fun _ _ _ _ _ => pv 2))), ?_⟩
    refine ⟨.ref a, rfl, a, rfl, ⟨_, SqL.of ha⟩, fun D hD => ?_⟩
    refine R4.lc2_out (walk_list (K := K) (a := a) (xs := pv' ps)) (fun i H' => H' D = some (.lst ((figs (ps.take i)).map V.int)) ∧ Same H H') ⟨upd_same, same_new hD⟩ (fun i H' _ ⟨_, s⟩ => SqL.of (s _ _ ha)) ?_ ?_
    · rintro i v H2 H2' hi ⟨hD2, s2⟩ ⟨rfl, hv⟩
      obtain ⟨p, en, rfl⟩ := of_pv hv
      obtain ⟨h1, _, _, _, _, h2, h3⟩ := (hb p (List.mem_of_getElem? en)).kp (Kp.of s2)
      have hle := flat_le (·.calls) en
      refine ⟨rfl, .ref p.t, rfl, p.t, _, 3, .ref p.ca, rfl, rfl, SqT.of h1, rfl, p.ca, rfl, ⟨_, SqT.of h2⟩, ?_⟩
      refine R4.lc2_in (walk_tup (K := K) (a := p.ca) (xs := p.calls.map V.int)) (fun j H' => H' D = some (.lst ((figs (ps.take i) ++ p.calls.take j).map V.int)) ∧ Same H H') ⟨by rw [List.take_zero, List.append_nil]; exact hD2, s2⟩ (fun j H' _ ⟨_, s⟩ => SqT.of (((hb p (List.mem_of_getElem? en)).kp (Kp.of s)).2.2.2.2.2.1)) ?_ ?_
      · rintro j x H3 H3' hj ⟨hD3, s3⟩ ⟨rfl, hx⟩
        rw [List.getElem?_map] at hx
        obtain ⟨n, ep, rfl⟩ := Option.map_eq_some_iff.mp hx
        have hjl := (List.getElem?_eq_some_iff.mp ep).1
        refine ⟨rfl, .int n, rfl, _, hD3, ?_, ?_, same_at s3 hD⟩
        · rw [List.length_map, List.length_append, List.length_take]
          exact small1000 (by show (List.flatMap _ _).length + _ ≤ _; unfold figs at hfl; omega)
        · rw [upd_same, map_snoc, List.take_add_one, ep, List.append_assoc]; rfl
      · rintro H3 ⟨hD3, s3⟩
        rw [List.length_map, List.take_length] at hD3
        exact ⟨by unfold figs; rw [flat_take _ en]; exact hD3, s3⟩
    · rintro H2 ⟨hD2, s2⟩
      rw [pv_len, List.take_length] at hD2
      exact q H2 D s2 hD hD2
end
end K37

set_option maxRecDepth 100000
set_option maxHeartbeats 2000000
namespace RE
open PySem PySem.Spec PyProof.Rows L2 RZ
/-! ### enumerate(tuple) -/
theorem new_enumB {v : Value} {o : Obj} {Hh : Heap → Prop} (B : Begins v o Hh) : Meets (Builtin.«enumerate.__new__» ⟨[.type "enumerate", v], []⟩) (fun _ R s => Hh s.heap ∧
      R (.ok (.ret (.ref (s.heap.push o).objs.size))) { s with heap := (s.heap.push o).push { cls := .type "enumerate", data := .fields #[.none, .bool false, .ref s.heap.objs.size, rawInt 0, .none, .none] } }) :=
  .of_wp fun P w A R s h => by
    obtain ⟨hp, g, d, tk, os⟩ := s; obtain ⟨h1, h⟩ := h
    have hsub := sub_enumerate
    have q1 : ∀ {A' : Around} {E : Value → Shared → Prop} {Q : Value → Shared → Prop}, Q (.ref hp.objs.size) ⟨hp.push o, g, d, tk, os⟩ → wpAny (model P w) A' (pyIter v) Q E ⟨hp, g, d, tk, os⟩ := fun q => B.iter P w _ _ ⟨hp, g, d, tk, os⟩ _ h1 q
    wp_walk using q1
    refine wpAny_stack_any fun st => wpAny_pure ?_
    split
    · rename_i c _ _ _ _ _
      cases (c == Value.type "enumerate") <;> (wp_walk using q1; exact ⟨_, rfl, h⟩)
    · wp_walk using q1
      exact ⟨_, rfl, h⟩
section
variable {P : Program} {w : World} {A : Around} {E : Value → Shared → Prop} {s : Shared}
theorem call_enumT {t : Addr} {its : Array Value} {Q : Value → Shared → Prop} (ht : s.heap.IsTuple t its)
    (h : ∀ h', IsEnum h' (s.heap.objs.size + 1) s.heap.objs.size 0 .none → h'.IsTupleIter s.heap.objs.size t 0 → (∀ b o, s.heap.get? b = some o → h'.get? b = some o) → Q (.ref (s.heap.objs.size + 1)) { s with heap := h' }) :
    wpAny (model P w) A (call (.type "enumerate") [.ref t]) Q E s := by
  refine callType_new F.called_enumerate (by decide) (F.typeCall_enumerate_1 _) (F.newCall_enumerate_1 _) (fun obj => F.args_object_init_2 obj _) F.entry_enumerate_new (new_enumB (begins_tuple t its)) ⟨ht, ?_⟩
  have ez : (s.heap.push { cls := .type "tuple_iterator", data := .fields #[.ref t, .int 0 0] }).objs.size = s.heap.objs.size + 1 := Heap.size_push ..
  show _ ∧ _
  rw [ez]
  have he := Heap.get?_push_size (s.heap.push { cls := .type "tuple_iterator", data := .fields #[.ref t, .int 0 0] }) (o := { cls := .type "enumerate", data := .fields #[.none, .bool false, .ref s.heap.objs.size, rawInt 0, .none, .none] }) rfl
  rw [ez] at he
  exact ⟨⟨_, he, rfl⟩, h _ he ⟨_, Heap.get?_push_of_some _ (Heap.get?_push_size _ rfl), rfl, rfl⟩ fun b o x => Heap.get?_push_of_some _ (Heap.get?_push_of_some _ x)⟩
end
def IteT (K : PySem.W.Frag) (a : Addr) : It :=
  ⟨fun i H => ∃ (xs : List V) (x : V), SqT K H a xs ∧ xs[i]? = some x, fun i H v H' => ∃ T x, v = .ref T ∧ H T = none ∧ H' = upd H T (.tup [.int (i : Nat), x]) ∧ ∀ xs, SqT K H a xs → xs[i]? = some x, fun i H => ∃ xs : List V, SqT K H a xs ∧ xs.length ≤ i⟩
theorem turn_enumT {P : Program} {w : World} {K : PySem.W.Frag} {elts : List Expr} {kk : Nat} {tpos : Pos} (a e it : Addr) :
    Turn P w K (.Tuple elts kk tpos) (IteT K a) [e, it] e (fun i h => (∃ old, IsEnum h e it ((i : Nat) : Int) old) ∧ h.IsTupleIter it a i ∧ e ≠ it) where
  mem := by simp
  obj := fun i h st b hb => by
    obtain ⟨⟨old, he⟩, ⟨o, ho, hc, hd⟩, _⟩ := st
    have eb : b = e ∨ b = it := by simpa using hb
    rcases eb with y | y <;> rw [y]
    · exact ⟨_, he, fun v q => nomatch q⟩
    · exact ⟨o, ho, fun v q => by rw [hd] at q; cases q⟩
  keep := fun i h h' st k => let ⟨⟨old, he⟩, hi, ne⟩ := st; ⟨⟨old, k e (by simp) _ he⟩, hi.at fun o q => k it (by simp) o q, ne⟩
  item := by
    intro X hP hw hK hc i pins s σ H E I hf st hg
    subst hP hw hK
    obtain ⟨⟨old, he⟩, hit, ne⟩ := st
    obtain ⟨xs, x, hq, hx⟩ := hg
    obtain ⟨its, rv, p, hz⟩ := I.tuple hq
    obtain ⟨u, hu, ru⟩ := rv.get hx
    have hel : e < s.heap.objs.size := Heap.lt_size he
    have hil : it < s.heap.objs.size := by obtain ⟨_, q, _⟩ := hit; exact Heap.lt_size q
    have nae : a ≠ e := fun z => by obtain ⟨o, ho, hc2, _⟩ := id p; rw [z, he] at ho; cases ho; exact absurd hc2 (by simp)
    have nai : a ≠ it := fun z => by obtain ⟨o, ho, hc2, _⟩ := id p; obtain ⟨o2, ho2, hc3, _⟩ := id hit; rw [z, ho2] at ho; cases ho; rw [hc3] at hc2; exact absurd hc2 (by simp)
    have hun : its.toArray[i]? = some u := by simpa using hu
    have hlt : i < its.toArray.size := (Array.getElem?_eq_some_iff.mp hun).1
    have hd0 : X.A.in1.handled = none := I.ok.hd hc
    refine wpAny_pyNext_enum_itemD (Draws.tuple hd0 it a nai its.toArray) he ⟨hit, p⟩ hlt ne (by simp [ne, Ne.symm nae]) fun u' h' tk hP2 ho st2 hT hsz hk => ?_
    have eu : u' = u := by rw [hun] at hP2; exact (Option.some.inj hP2).symm
    subst eu
    obtain ⟨hit', _⟩ := st2
    refine ⟨_, rfl, wpAny_letOwnedTupleGo_enum (s := { s with heap := h', toks := tk + 1 }) ho fun h'' he' sb => ?_⟩
    have hT2 : h''.get? s.heap.objs.size = some { cls := .type "tuple", data := .seq #[.int i tk, u'] } := (sb.2 _ (Nat.ne_of_gt hel)).trans hT
    have new : ObjOk X.prog X.w (upd H s.heap.objs.size (.tup [.int (i : Nat), x])) h'' s.heap.objs.size (.tup [.int (i : Nat), x]) := ⟨by show 2 ≤ sizeLine; decide, [.int i tk, u'], .cons ⟨_, rfl⟩ (.cons ru .nil), ⟨_, hT2, rfl, _, rfl⟩⟩
    have I1 : Inv X pins σ (upd H s.heap.objs.size (.tup [.int (i : Nat), x])) { s with heap := h'', toks := tk + 1 } :=
      I.turnedNew (ch := [e, it]) (fun b ob hb q => (sb.2 b (fun z => hb (by simp [z]))).trans (hk b ob (fun z => hb (by simp [z])) (fun z => hb (by simp [z])) q)) hf (Nat.le_refl _) new
    refine ⟨.ref s.heap.objs.size, _, I1, rfl, ⟨_, x, rfl, I.hok.fresh (Nat.le_refl _), rfl, fun ys hy => by rw [I.tuple_inj hy hq]; exact hx⟩, ⟨⟨u', ?_⟩, hit'.at fun o q => (sb.2 it (Ne.symm ne)).trans q, ne⟩, fun b hb => ?_⟩
    · rw [show ((i + 1 : Nat) : Int) = (i : Int) + 1 by omega]; exact he'
    · have eb : b = e ∨ b = it := by simpa using hb
      have hb' : b < s.heap.objs.size := by rcases eb with y | y <;> rw [y] <;> assumption
      rw [upd_ne (Nat.ne_of_lt hb')]; exact (hf b hb).1
  done := by
    intro X hP hw hK hc i pins s σ H E I hf st hg
    subst hP hw hK
    obtain ⟨⟨old, he⟩, hit, ne⟩ := st
    obtain ⟨xs, hq, hx⟩ := hg
    obtain ⟨its, rv, p, hz⟩ := I.tuple hq
    obtain ⟨f0, f1, f2, f3, f4, f5⟩ := hf it (by simp)
    have hl := rv.length
    have hd0 : X.A.in1.handled = none := I.ok.hd hc
    have hend : its.toArray[i]? = none := Array.getElem?_eq_none (by simp; omega)
    have nai : a ≠ it := fun z => by obtain ⟨o, ho, hc2, _⟩ := id p; obtain ⟨o2, ho2, hc3, _⟩ := id hit; rw [z, ho2] at ho; cases ho; rw [hc3] at hc2; exact absurd hc2 (by simp)
    have hT : s.TypeIs (.ref e) "enumerate" := ⟨_, he, rfl⟩
    unfold pyNext
    refine wpAny_bind (wpAny_attempt (wpAny_callSpecial?_slot (name := Str.ofString "__next__") hT F.slot_enumerate_next (wpAny_call_entry F.slot_enumerate_next hT F.entry_enumerate_next ?_ (F.args_enumerate_next_1 _))))
    show wpAny _ _ (field (.ref e) 2 >>= _) _ _ _; refine wpAny_bind (wpAny_field he rfl (x := .ref it) rfl ?_)
    refine wpAny_bind (nextOf_tuple_end hd0 hit p hend fun h' x eb hx' => ?_)
    obtain ⟨o, ho, hc⟩ := hx'
    refine wpAny_bind (wpAny_isInstance (T := "StopIteration") (b := true) ⟨o, ho, hc⟩ isSubtype_stop (wpAny_pure ?_))
    exact ⟨rfl, I.turned (t' := s.toks) (fun b o hb q => eb b o hb q) f0 f1 f3 f4 f5⟩
  self := fun A i s Q E st h => let ⟨⟨_, he⟩, _⟩ := st; wpAny_pyIter_enum he h
def iEnumT (K : PySem.W.Frag) (ta : TA) : TI := fun σ H R => ta σ H fun vs H1 => ∃ a xs, vs = [.ref a] ∧ SqT K H1 a xs ∧ R (IteT K a) H1
theorem pi_enumT {X : Cx} {e : Expr} {ta : TA} {p pos tpos : Pos} {elts : List Expr} {kk : Nat} (hg : Gl X "enumerate") (hm : X.mg "enumerate" = none) (ha : PA X [e] ta) (hs : starEach [e] X.env = [(false, eval e X.env)] := by rfl) :
    PI X (.Tuple elts kk tpos) (.Call (.Name "enumerate" p) [e] [] pos) (iEnumT X.K ta) := by
  refine ⟨fun pins s σ H R I h => Call_ (ld_blt I hg hm boot_enumerate (PyProof.Rows.callWith_type1 (thn (ha.run pos pins s σ H _ I h) fun us s1 ⟨vs, H1, I1, r1, q1⟩ => ?_) hs rfl))⟩
  obtain ⟨a, xs, rfl, hq, q⟩ := q1
  cases r1 with
  | cons r rr =>
    cases rr; cases r
    obtain ⟨its, rv, p', hz⟩ := I1.tuple hq
    refine call_enumT (show s1.heap.IsTuple a its.toArray from p') fun h' he hit hk => wpAny_pyIter_enum he ?_
    have I2 : Inv X pins σ H1 { s1 with heap := h' } := I1.kept (t' := s1.toks) hk
    refine ⟨s1.heap.objs.size + 1, [s1.heap.objs.size + 1, s1.heap.objs.size], _, _, H1, rfl, I2, turn_enumT a (s1.heap.objs.size + 1) s1.heap.objs.size, ⟨⟨.none, he⟩, hit, Nat.succ_ne_self _⟩, fun b hb => ?_, q⟩
    have hle : s1.heap.objs.size ≤ b := by
      have eb : b = s1.heap.objs.size + 1 ∨ b = s1.heap.objs.size := by simpa using hb
      rcases eb with y | y <;> rw [y]
      · exact Nat.le_add_right _ _
      · exact Nat.le_refl _
    exact I1.fpOk hle (I1.hok.fresh hle)
theorem for_enumT {K : PySem.W.Frag} {a : Addr} {xs : List V} {g : TG} {tb : TS} {D : Ends} {σ : L2.St} {H : Hp} (Pv : Nat → L2.St → Hp → Prop) (h0 : Pv 0 σ H) (hq : ∀ i σ H, Pv i σ H → SqT K H a xs)
    (hs : ∀ (i : Nat) (x : V) (T : Addr) (σ : L2.St) (H : Hp), xs[i]? = some x → Pv i σ H → H T = none → g (.ref T) σ (upd H T (.tup [.int (i : Nat), x])) fun σ2 H2 => tb { D with nx := Pv (i + 1), ct := Pv (i + 1), bk := D.nx } σ2 H2) (hd : ∀ σ H, Pv xs.length σ H → D.nx σ H) :
    ∃ W : Nat → Nat → L2.St → Hp → Prop, (∃ m, W 0 m σ H) ∧ ∀ i m σ H, W i m σ H →
      ((IteT K a).stop i H ∧ D.nx σ H) ∨ ((IteT K a).go i H ∧ ∃ N : L2.St → Hp → Prop, (∀ σ' H', N σ' H' → ∃ m', m' < m ∧ W (i + 1) m' σ' H') ∧ ∀ v H', (IteT K a).yld i H v H' → g v σ H' fun σ2 H2 => tb { D with nx := N, ct := N, bk := D.nx } σ2 H2) := by
  refine ⟨fun i m σ H => m = xs.length - i ∧ i ≤ xs.length ∧ Pv i σ H, ⟨xs.length, rfl, Nat.zero_le _, h0⟩, fun i m σ H => ?_⟩
  rintro ⟨rfl, hi, p⟩
  have qx := hq i σ H p
  by_cases hlt : i < xs.length
  · refine .inr ⟨⟨xs, _, qx, List.getElem?_eq_getElem hlt⟩, Pv (i + 1), fun σ' H' p' => ⟨xs.length - (i + 1), by omega, rfl, hlt, p'⟩, fun v H' y => ?_⟩
    obtain ⟨T, x', rfl, hT, rfl, f1⟩ := y
    exact hs i x' T σ H (f1 xs qx) p hT
  · obtain rfl : i = xs.length := by omega
    exact .inl ⟨⟨xs, qx, Nat.le_refl _⟩, hd σ H p⟩
theorem for_enumL {K : PySem.W.Frag} {a : Addr} {xs : List V} {g : TG} {tb : TS} {D : Ends} {σ : L2.St} {H : Hp} (Pv : Nat → L2.St → Hp → Prop) (h0 : Pv 0 σ H) (hq : ∀ i σ H, Pv i σ H → SqL K H a xs)
    (hs : ∀ (i : Nat) (x : V) (T : Addr) (σ : L2.St) (H : Hp), xs[i]? = some x → Pv i σ H → H T = none → g (.ref T) σ (upd H T (.tup [.int (i : Nat), x])) fun σ2 H2 => tb { D with nx := Pv (i + 1), ct := Pv (i + 1), bk := D.nx } σ2 H2) (hd : ∀ σ H, Pv xs.length σ H → D.nx σ H) :
    ∃ W : Nat → Nat → L2.St → Hp → Prop, (∃ m, W 0 m σ H) ∧ ∀ i m σ H, W i m σ H →
      ((Ite K a).stop i H ∧ D.nx σ H) ∨ ((Ite K a).go i H ∧ ∃ N : L2.St → Hp → Prop, (∀ σ' H', N σ' H' → ∃ m', m' < m ∧ W (i + 1) m' σ' H') ∧ ∀ v H', (Ite K a).yld i H v H' → g v σ H' fun σ2 H2 => tb { D with nx := N, ct := N, bk := D.nx } σ2 H2) := by
  refine ⟨fun i m σ H => m = xs.length - i ∧ i ≤ xs.length ∧ Pv i σ H, ⟨xs.length, rfl, Nat.zero_le _, h0⟩, fun i m σ H => ?_⟩
  rintro ⟨rfl, hi, p⟩
  have qx := hq i σ H p
  by_cases hlt : i < xs.length
  · refine .inr ⟨⟨xs, _, qx, List.getElem?_eq_getElem hlt⟩, Pv (i + 1), fun σ' H' p' => ⟨xs.length - (i + 1), by omega, rfl, hlt, p'⟩, fun v H' y => ?_⟩
    obtain ⟨T, x', rfl, hT, rfl, f1⟩ := y
    exact hs i x' T σ H (f1 xs qx) p hT
  · obtain rfl : i = xs.length := by omega
    exact .inl ⟨⟨xs, qx, Nat.le_refl _⟩, hd σ H p⟩
end RE

set_option maxRecDepth 100000
set_option maxHeartbeats 8000000
namespace K37
open PySem PySem.Spec PyProof.Rows L2
/-! ### owners -/
def spans : Nat → Nat → List Bk → List (Nat × Nat × Nat)
  | _, _, [] => []
  | k, s, b :: bs => List.replicate b.ps.length (k, s, s + b.ps.length) ++ spans (k + 1) (s + b.ps.length) bs
theorem spans_len : ∀ (bs : List Bk) (k s : Nat), (spans k s bs).length = (pcs bs).length
  | [], _, _ => rfl
  | b :: bs, k, s => by
    show (_ ++ _ : List _).length = (b.ps ++ pcs bs).length
    rw [List.length_append, List.length_append, List.length_replicate, spans_len bs]
theorem spans_snoc (x : Bk) : ∀ (bs : List Bk) (k s : Nat), spans k s (bs ++ [x]) = spans k s bs ++ List.replicate x.ps.length (k + bs.length, s + (pcs bs).length, s + (pcs bs).length + x.ps.length)
  | [], k, s => by
    show List.replicate _ _ ++ spans _ _ [] = [] ++ _
    rw [List.nil_append]
    show List.replicate _ _ ++ [] = _
    rw [List.append_nil]; rfl
  | b :: bs, k, s => by
    rw [List.cons_append]
    show List.replicate _ _ ++ spans (k + 1) (s + b.ps.length) (bs ++ [x]) = (List.replicate _ _ ++ spans (k + 1) (s + b.ps.length) bs) ++ _
    rw [spans_snoc x bs, List.append_assoc]
    have e1 : k + 1 + bs.length = k + (b :: bs).length := by rw [List.length_cons]; omega
    have e2 : s + b.ps.length + (pcs bs).length = s + (pcs (b :: bs)).length := by show _ = s + (b.ps ++ pcs bs).length; rw [List.length_append]; omega
    rw [e1, e2]
theorem spans_take {bs : List Bk} {i : Nat} {b : Bk} (h : bs[i]? = some b) : spans 0 0 (bs.take (i + 1)) = spans 0 0 (bs.take i) ++ List.replicate b.ps.length (i, (pcs (bs.take i)).length, (pcs (bs.take i)).length + b.ps.length) := by
  have hl := (List.getElem?_eq_some_iff.mp h).1
  rw [List.take_add_one, h]
  show spans 0 0 (_ ++ [b]) = _
  rw [spans_snoc, List.length_take, Nat.min_eq_left (by omega), Nat.zero_add, Nat.zero_add]
def OwnT (H : Hp) (os : List V) (sp : List (Nat × Nat × Nat)) : Prop := os.length = sp.length ∧ ∀ (j k s e : Nat), sp[j]? = some (k, s, e) → ∃ t : Addr, os[j]? = some (.ref t) ∧ H t = some (.tup [.int (k : Int), .int (s : Int), .int (e : Int)])
theorem OwnT.kp {H H' : Hp} {os : List V} {sp : List (Nat × Nat × Nat)} (h : OwnT H os sp) (s : Kp H H') : OwnT H' os sp := ⟨h.1, fun j k s' e hj => let ⟨t, h1, h2⟩ := h.2 j k s' e hj; ⟨t, h1, s.tup h2⟩⟩
theorem OwnT.app {H : Hp} {os : List V} {sp : List (Nat × Nat × Nat)} (h : OwnT H os sp) {t : Addr} {k s e m : Nat} (ht : H t = some (.tup [.int (k : Int), .int (s : Int), .int (e : Int)])) : OwnT H (os ++ List.replicate m (V.ref t)) (sp ++ List.replicate m (k, s, e)) := by
  refine ⟨by rw [List.length_append, List.length_append, h.1, List.length_replicate, List.length_replicate], fun j k' s' e' hj => ?_⟩
  by_cases hlt : j < sp.length
  · rw [List.getElem?_append_left hlt] at hj
    rw [List.getElem?_append_left (by rw [h.1]; exact hlt)]
    exact h.2 j k' s' e' hj
  · rw [List.getElem?_append_right (by omega), List.getElem?_replicate] at hj
    rw [List.getElem?_append_right (by rw [h.1]; omega), List.getElem?_replicate, h.1]
    by_cases hm : j - sp.length < m
    · rw [if_pos hm] at hj ⊢
      cases hj
      exact ⟨t, rfl, ht⟩
    · rw [if_neg hm] at hj; cases hj
def dueN (bs : List Bk) : Nat := if 40 < (pcs bs).length then (pcs bs).length else if 4 < (figs (pcs bs)).length then (figs (pcs bs)).length else 0
structure Cst (mg : Str → Option Value) (t1 t2 : Tok) : Prop where
  mp : mg "MOST_PIECES" = some (.int 40 t1)
  mf : mg "MOST_FIGURES" = some (.int 4 t2)
section
variable {P : Program} {w : World} {K : PySem.W.Frag} {mg : Str → Option Value} {base : Heap} {t1 t2 : Tok}
def spOwners (K : PySem.W.Frag) : Sp := fun vs H Q _ => ∃ (a : Addr) (bs : List Bk), vs = [.ref a] ∧ Arg K H a bs ∧ BsT H bs ∧ Small bs ∧ ∀ H' p os, Same H H' → H p = none → H' p = some (.lst os) → OwnT H' os (spans 0 0 bs) → Q (.ref p) H'
abbrev nOwners : List Str := ["blocks", "owners", "index", "block", "start", "many"]
theorem scOwners : FnScope nOwners ["blocks"] (defScope sOwners) := ⟨rfl, rfl, rfl, by decide +kernel, rfl, by decide +kernel, by decide +kernel⟩
theorem ok_owners {f : Addr} {fd : FuncData} (B : Blt mg) (F : Fun K "_owners_of" "_owners_of" sOwners f fd) : FnOk P w K mg base CX0 1 f fd ["blocks"] (spOwners K) := by
  refine F.ok scOwners (fun vs H Q E h => ?_) (fun cdv A0 outer s H vs Q E hr h => ?_)
  · obtain ⟨a, bs, rfl, _⟩ := h; rfl
  · obtain ⟨a, bs, rfl, harg, hb, ⟨hs1, hs2⟩, q⟩ := h
    rcases harg with ha | ⟨rfl, ha⟩
    · refine ⟨_, (pss_cons (ps_set (i := 1) scOwners.nd rfl (.inl rfl) (pe_lst pa_nil))
      (pss_cons (ps_for (PassesOwn.never) rfl (pi_enum (by rfl) B.enumerate (pa_cons (pv 0) pa_nil)) (pg_tup rfl (pgs_cons (pg_name (i := 2) scOwners.nd rfl (.inl rfl)) (pgs_cons (pg_name (i := 3) scOwners.nd rfl (.inl rfl)) pgs_nil)))
        (pss_cons (ps_set (i := 4) scOwners.nd rfl (.inl rfl) (pe_callB call_len (by rfl) B.len PySem.boot_len (pa_cons (pv 1) pa_nil)))
        (pss_cons (ps_set (i := 5) scOwners.nd rfl (.inl rfl) (pe_callB call_len (by rfl) B.len PySem.boot_len (pa_cons (pe_ix ix_tup (pv 3) pe_int (fun _ _ => rfl)) pa_nil)))
        (pss_one (ps_expr (pe_bm PySem.F.plainAttrs_list PySem.F.slot_list_extend PySem.F.type_list_extend mt_extend (pv 1) (pa_cons (pe_op op_rep (pe_lst (pa_cons (pe_tup (pa_cons (pv 2) (pa_cons (pv 4) (pa_cons (pe_op op_add (pv 4) (pv 5)) pa_nil)))) pa_nil)) (pv 5)) pa_nil)))))))
      (pss_one (ps_ret (pv 1))))), ?_⟩
      refine ⟨Nat.zero_le _, fun O nO => ?_⟩
      have s1 : Same H (upd H O (.lst [])) := same_new nO
      have hO1 : (upd H O (.lst [])) O = some (.lst []) := upd_same
      generalize upd H O (.lst []) = H1 at s1 hO1 ⊢
      refine ⟨.ref a, rfl, a, bv bs, rfl, SqL.of (s1 _ _ ha), ?_⟩
      refine for_it (walk_enum (K := K) (a := a) (xs := bv bs)) (fun i σ H' => ∃ (y2 y3 y4 y5 : Option V) (os : List V), σ = [some (.ref a), some (.ref O), y2, y3, y4, y5] ∧ Same H H' ∧ H' O = some (.lst os) ∧ OwnT H' os (spans 0 0 (bs.take i))) ⟨none, none, none, none, [], rfl, s1, hO1, rfl, fun j k s e h => nomatch h⟩ (fun i σ H' _ ⟨_, _, _, _, _, _, sm, _⟩ => SqL.of (sm _ _ ha)) ?_ ?_
      · rintro i v σ H' H'' hi ⟨y2, y3, y4, y5, os, rfl, sm, hO, hT⟩ ⟨T, x, y, rfl, nT, rfl, hx, hy⟩
        cases hx
        obtain ⟨b, en, rfl⟩ := of_bv hy
        have sT := same_new nT (o := .tup [.int (i : Int), .ref b.t])
        have hT1 : (upd H' T (.tup [.int ((i : Nat) : Int), .ref b.t])) T = some (.tup [.int ((i : Nat) : Int), .ref b.t]) := upd_same
        generalize upd H' T (.tup [.int ((i : Nat) : Int), .ref b.t]) = H2 at sT hT1 ⊢
        have hO2 := sT _ _ hO
        have hT := hT.kp (Kp.of sT)
        have s02 := sm.trans sT
        obtain ⟨h1, h2, h3, h4⟩ := (hb b (List.mem_of_getElem? en)).kp (Kp.of s02)
        have hle := flat_le (·.ps) en
        have hosl : os.length = (pcs (bs.take i)).length := by rw [hT.1, spans_len]
        have hle2 : (pcs (bs.take i)).length + b.ps.length ≤ 200 := by unfold pcs at hs2 ⊢; omega
        refine ⟨T, _, rfl, SqT.of hT1, rfl, _, _, rfl, _, _, rfl, rfl, ?_⟩
        refine ⟨.ref O, rfl, .ref O, (pcs (bs.take i)).length, rfl, .inl ⟨_, SqL.of hO2, hosl.symm⟩, .ref b.t, rfl, b.t, _, 4, .ref b.pt, rfl, rfl, SqT.of h1, rfl, .ref b.pt, b.ps.length, rfl, .inr ⟨_, SqT.of h2, (pv_len _).symm⟩, ?_⟩
        refine ⟨.ref O, rfl, .inl ⟨rfl, _, SqL.of hO2⟩, .int (i : Int), rfl, .int (((pcs (bs.take i)).length : Nat) : Int), rfl, .int (((pcs (bs.take i)).length : Nat) : Int), rfl, .int ((b.ps.length : Nat) : Int), rfl, _, _, rfl, rfl, by show 3 ≤ sizeLine; decide, fun t nt => ⟨by show 1 ≤ sizeLine; decide, fun l nl => ?_⟩⟩
        have st := same_new nt (o := .tup [.int (i : Int), .int (((pcs (bs.take i)).length : Nat) : Int), .int ((((pcs (bs.take i)).length : Nat) : Int) + ((b.ps.length : Nat) : Int))])
        have ht : (upd H2 t (.tup [.int (i : Int), .int (((pcs (bs.take i)).length : Nat) : Int), .int ((((pcs (bs.take i)).length : Nat) : Int) + ((b.ps.length : Nat) : Int))])) t = some (.tup [.int (i : Int), .int (((pcs (bs.take i)).length : Nat) : Int), .int (((pcs (bs.take i)).length + b.ps.length : Nat) : Int)]) := by rw [upd_same, Int.natCast_add]
        have sl := same_new nl (o := .lst [.ref t])
        refine ⟨.int ((b.ps.length : Nat) : Int), rfl, l, ((b.ps.length : Nat) : Int), _, rfl, rfl, upd_same, by omega, by omega, (by show 1 * ((b.ps.length : Nat) : Int).toNat ≤ sizeLine; rw [sizeLine_eq]; omega), fun r nr => ?_⟩
        have sr := same_new nr (o := .lst (List.replicate ((b.ps.length : Nat) : Int).toNat [V.ref t]).flatten)
        have s3 := st.trans (sl.trans sr)
        have ht3 := sr _ _ (sl _ _ ht)
        have hO3 := s3 _ _ hO2
        have hfl : (List.replicate ((b.ps.length : Nat) : Int).toNat [V.ref t]).flatten = List.replicate b.ps.length (V.ref t) := by
          rw [Int.toNat_natCast]
          induction b.ps.length with
          | zero => rfl
          | succ n ih => rw [List.replicate_succ, List.flatten_cons, ih, List.replicate_succ]; rfl
        refine ⟨O, r, _, _, rfl, rfl, hO3, upd_same, (by rw [hfl, List.length_replicate, hosl, sizeLine_eq]; omega), ?_⟩
        rw [hfl] at s3 ht3 hO3 ⊢
        refine ⟨_, _, _, _, os ++ List.replicate b.ps.length (V.ref t), rfl, ?_, upd_same, ?_⟩
        · exact same_at (s02.trans s3) nO
        · rw [spans_take en]
          refine OwnT.kp ((hT.kp (Kp.of s3)).app ht3) ?_
          exact Kp.but hO3 (fun z => z) upd_but
      · rintro σ H' ⟨y2, y3, y4, y5, os, rfl, sm, hO, hT⟩
        rw [bv_len, List.take_length] at hT
        exact ⟨.ref O, rfl, q H' O os sm nO hO hT⟩
    · refine ⟨_, (pss_cons (ps_set (i := 1) scOwners.nd rfl (.inl rfl) (pe_lst pa_nil))
      (pss_cons (ps_for (PassesOwn.never) rfl (RE.pi_enumT (by rfl) B.enumerate (pa_cons (pv 0) pa_nil)) (pg_tup rfl (pgs_cons (pg_name (i := 2) scOwners.nd rfl (.inl rfl)) (pgs_cons (pg_name (i := 3) scOwners.nd rfl (.inl rfl)) pgs_nil)))
        (pss_cons (ps_set (i := 4) scOwners.nd rfl (.inl rfl) (pe_callB call_len (by rfl) B.len PySem.boot_len (pa_cons (pv 1) pa_nil)))
        (pss_cons (ps_set (i := 5) scOwners.nd rfl (.inl rfl) (pe_callB call_len (by rfl) B.len PySem.boot_len (pa_cons (pe_ix ix_tup (pv 3) pe_int (fun _ _ => rfl)) pa_nil)))
        (pss_one (ps_expr (pe_bm PySem.F.plainAttrs_list PySem.F.slot_list_extend PySem.F.type_list_extend mt_extend (pv 1) (pa_cons (pe_op op_rep (pe_lst (pa_cons (pe_tup (pa_cons (pv 2) (pa_cons (pv 4) (pa_cons (pe_op op_add (pv 4) (pv 5)) pa_nil)))) pa_nil)) (pv 5)) pa_nil)))))))
      (pss_one (ps_ret (pv 1))))), ?_⟩
      refine ⟨Nat.zero_le _, fun O nO => ?_⟩
      have s1 : Same H (upd H O (.lst [])) := same_new nO
      have hO1 : (upd H O (.lst [])) O = some (.lst []) := upd_same
      have ha1 : SqT K (upd H O (.lst [])) a [] := by
        rcases ha with (ha | ⟨o, ha⟩) | ha
        · exact .inl (.inl (s1 _ _ ha))
        · exact .inl (.inr ⟨o, s1 _ _ ha⟩)
        · exact .inr ha
      generalize upd H O (.lst []) = H1 at s1 hO1 ha1 ⊢
      refine ⟨.ref a, rfl, a, [], rfl, ha1, RE.for_enumT (K := K) (a := a) (xs := []) (fun i σ H' => σ = [some (.ref a), some (.ref O), none, none, none, none] ∧ H' = H1) ⟨rfl, rfl⟩ (fun i σ H' ⟨_, e⟩ => by rw [e]; exact ha1) (fun i x T σ H' hx => by cases hx) ?_⟩
      rintro σ H' ⟨rfl, rfl⟩
      exact ⟨.ref O, rfl, q _ O [] s1 nO hO1 ⟨rfl, fun j k s e h => nomatch h⟩⟩
/-! ### _check_sizes -/
def spSizes (K : PySem.W.Frag) (CT : Addr) : Sp := fun vs H Q E => ∃ (a : Addr) (bs : List Bk), vs = [.ref a] ∧ Arg K H a bs ∧ BsT H bs ∧ Small bs ∧ (0 < dueN bs → ∀ H1 d, Same H H1 → H1 d = none → E (.ref CT) (some d) (upd H1 d (.xd [("many", .int ((dueN bs : Nat) : Int))]))) ∧ (dueN bs = 0 → ∀ H', Same H H' → Q .non H')
abbrev nSizes : List Str := ["blocks", "pieces", "figures"]
theorem scSizes : FnScope nSizes ["blocks"] (defScope sSizes) := ⟨rfl, rfl, rfl, by decide +kernel, rfl, by decide +kernel, by decide +kernel⟩
theorem ok_sizes {CT fT f f_pieces f_figures : Addr} {fdT fd fd_pieces fd_figures : FuncData} (B : Blt mg) (Z : Cst mg t1 t2) (NT : TlE K mg CT fT fdT) (F : Fun K "_check_sizes" "_check_sizes" sSizes f fd)
    (F_pieces : Fun K "_pieces_of" "_pieces_of" sPieces f_pieces fd_pieces) (b_pieces : Binds K fd_pieces ["blocks"] []) (g_pieces : mg "_pieces_of" = some (.ref f_pieces))
    (F_figures : Fun K "_figures_of" "_figures_of" sFigures f_figures fd_figures) (b_figures : Binds K fd_figures ["pieces"] []) (g_figures : mg "_figures_of" = some (.ref f_figures)) : FnOk P w K mg base (L2N.CX P w) 3 f fd ["blocks"] (spSizes K CT) := by
  have GT : FnOk P w K mg base CX0 1 fT fdT ["self", "many"] (spEI K CT "many") := ok_TlI NT.F
  have G_pieces : FnOk P w K mg base CX0 1 f_pieces fd_pieces ["blocks"] (spPieces K) := ok_pieces F_pieces
  have G_figures : FnOk P w K mg base CX0 1 f_figures fd_figures ["pieces"] (spFigures K) := ok_figures F_figures
  refine RN.okXN F scSizes (fun vs H Q E h => ?_) (fun cdv A0 outer s H vs Q E hr h => ?_)
  · obtain ⟨a, bs, rfl, _⟩ := h; rfl
  · obtain ⟨a, bs, rfl, ha, hb, hs, qe, q⟩ := h
    have hr2 : Room 2 _ := hr
    have hr1 : Room 1 _ := hr.mono (by decide)
    refine ⟨_, (pss_cons (ps_set (i := 1) scSizes.nd rfl (.inl rfl) (pe_call G_pieces hr1 (by rfl) g_pieces F_pieces.kp b_pieces .nil pass0 (pa_cons (pv 0) pa_nil)))
      (pss_cons (ps_if (pt_cmpR op_gt (pe_callB call_len (by rfl) B.len PySem.boot_len (pa_cons (pv 1) pa_nil)) (pe_glob (v := .int 40) (by rfl) Z.mp ⟨_, rfl⟩) (nomark _)) (pss_one (L2N.ps_raise rfl (L2N.takes_of rfl rfl rfl rfl) (RN.pmk_oexN NT.oex NT.iC NT.tI GT hr2 NT.b .nil pass0 (by rfl) NT.gC (pa_cons (pe_callB call_len (by rfl) B.len PySem.boot_len (pa_cons (pv 1) pa_nil)) pa_nil)))) pss_nil)
      (pss_cons (ps_set (i := 2) scSizes.nd rfl (.inl rfl) (pe_call G_figures hr1 (by rfl) g_figures F_figures.kp b_figures .nil pass0 (pa_cons (pv 1) pa_nil)))
      (pss_one (ps_if (pt_cmpR op_gt (pe_callB call_len (by rfl) B.len PySem.boot_len (pa_cons (pv 2) pa_nil)) (pe_glob (v := .int 4) (by rfl) Z.mf ⟨_, rfl⟩) (nomark _)) (pss_one (L2N.ps_raise rfl (L2N.takes_of rfl rfl rfl rfl) (RN.pmk_oexN NT.oex NT.iC NT.tI GT hr2 NT.b .nil pass0 (by rfl) NT.gC (pa_cons (pe_callB call_len (by rfl) B.len PySem.boot_len (pa_cons (pv 2) pa_nil)) pa_nil)))) pss_nil))))), ?_⟩
    refine ⟨.ref a, rfl, a, bs, rfl, ha, hb, hs, fun H1 p s1 np hp => ?_⟩
    refine ⟨.ref p, rfl, .ref p, (pcs bs).length, rfl, .inl ⟨_, SqL.of hp, (pv_len _).symm⟩, _, 40, rfl, rfl, _, rfl, ?_⟩
    refine ite2 (fun h1 => ?_) (fun h1 => ?_)
    · have h40 : 40 < (pcs bs).length := by have := of_decide_eq_true h1; omega
      have hD : dueN bs = (pcs bs).length := by unfold dueN; rw [if_pos h40]
      rw [hD] at qe
      exact ⟨.ref p, rfl, .ref p, (pcs bs).length, rfl, .inl ⟨_, SqL.of hp, (pv_len _).symm⟩, raise_err NT.oex NT.fp fun d hd => qe (by omega) H1 d s1 hd⟩
    have n40 : ¬ 40 < (pcs bs).length := fun z => h1 (decide_eq_true (by show (((pcs bs).length : Nat) : Int) > 40; omega))
    have hbp := (hb.kp (Kp.of s1)).pcs
    refine ⟨.ref p, rfl, p, pcs bs, rfl, hp, hbp, hs.2, fun H2 g s2 ng hg => ?_⟩
    have hfl := figs_len hbp
    refine ⟨.ref g, rfl, .ref g, (figs (pcs bs)).length, rfl, .inl ⟨_, SqL.of hg, by rw [List.length_map]⟩, _, 4, rfl, rfl, _, rfl, ?_⟩
    refine ite2 (fun h2 => ?_) (fun h2 => ?_)
    · have h4 : 4 < (figs (pcs bs)).length := by have := of_decide_eq_true h2; omega
      have hD : dueN bs = (figs (pcs bs)).length := by unfold dueN; rw [if_neg n40, if_pos h4]
      rw [hD] at qe
      exact ⟨.ref g, rfl, .ref g, (figs (pcs bs)).length, rfl, .inl ⟨_, SqL.of hg, by rw [List.length_map]⟩, raise_err NT.oex NT.fp fun d hd => qe (by omega) H2 d (s1.trans s2) hd⟩
    · have n4 : ¬ 4 < (figs (pcs bs)).length := fun z => h2 (decide_eq_true (by show (((figs (pcs bs)).length : Nat) : Int) > 4; omega))
      exact q (by unfold dueN; rw [if_neg n40, if_neg n4]) H2 (s1.trans s2)
end
end K37

set_option maxRecDepth 100000
set_option maxHeartbeats 4000000
namespace R7
open PySem PySem.Spec PyProof.Rows L2
/-! ### str.__eq__ asked of an object -/
theorem str_eq_ref (z : Str) (t : Tok) (a : Addr) (o : Obj) (hd : o.data = .plain) :
    Meets (Builtin.«str.__eq__» ⟨[.str z t, .ref a], []⟩) (fun _ R s => s.heap.get? a = some o ∧ R (.ok (.ret .notImplemented)) s) :=
  .of_wp fun prog w A R s h => by
    obtain ⟨hp, g, d, tk, os⟩ := s
    obtain ⟨hl, h⟩ := h
    wp_walk using wpAny_load hl
    rw [hd]
    exact wpAny_pure (wpAny_bind (wpAny_rule (wpAny_pure ⟨_, rfl, h⟩)))
section
variable {prog : Program} {w : World} {A : Around} {E : Value → Shared → Prop} {s : Shared} {K : PySem.W.Frag} {x C f : Addr} {ox : Obj} {od : Option Obj}
theorem sub_str : PySem.W.subIn K (.type "str") (.ref C) = some false := by
  have e : fastBuiltinMro "str" = some [.type "str", .type "object"] := by decide +kernel
  show (fastBuiltinMro "str").map (·.contains (.ref C)) = some false
  rw [e]
  first
    | rfl
    | simp
/-- an instance compared with a text, its own == says NotImplemented -/
theorem rc_ni {z : Str} {t : Tok} {Q : Value → Shared → Prop} (hu : A.units < cLine) (X : K.In s.heap) (I : PySem.W.InstAt s.heap x ox C od) (hs : PySem.W.findIn K (.ref C) "__eq__" = some (some (.ref f))) (hf : PySem.W.isFn K (.ref f) = true)
    (hcall : wpAny (model prog w) A (call (.ref f) [.ref x, .str z t]) (fun v s' => v = .notImplemented ∧ (∃ o, s'.heap.get? x = some o ∧ o.data = .plain) ∧ Q (.bool false) s') E s) :
    wpAny (model prog w) A (richCompare .Eq (.ref x) (.str z t)) Q E s := by
  have one : wpAny (model prog w) A (tryCompare (.ref x) "__eq__" (.str z t)) (fun r s' => r = none ∧ (∃ o, s'.heap.get? x = some o ∧ o.data = .plain) ∧ Q (.bool false) s') E s := by
    unfold tryCompare
    refine wpAny_bind (PySem.W.ifBound_K X I hs hf (wpAny_mono hcall (fun v s' hv => ?_) fun _ _ e => e))
    obtain ⟨rfl, h1, h2⟩ := hv
    exact wpAny_pure ⟨rfl, h1, h2⟩
  have two : ∀ s', (∃ o, s'.heap.get? x = some o ∧ o.data = .plain) → Q (.bool false) s' → wpAny (model prog w) A (tryCompare (.str z t) "__eq__" (.ref x)) (fun r s2 => r = none ∧ Q (.bool false) s2) E s' := fun s' ⟨o, h1, h2⟩ hq =>
    wpAny_tryCompare_declines (typeIs_str s' z t) F.slot_str_eq (call_meets F.slot_str_eq (typeIs_str s' z t) F.entry_str_eq (F.args_str_eq_2 _ _) (str_eq_ref z t x o h2) ⟨h1, rfl, rfl, hq⟩)
  simp only [richCompare, cmpInfo_Eq, oneThing_ref]
  refine wpAny_holding (wpAny_bind (wpAny_cRoomFor hu ?_))
  refine wpAny_bind (I.type.here ?_)
  refine wpAny_bind (wpAny_typeOf (typeIs_str s z t) ?_)
  split
  · refine wpAny_bind ((PySem.W.looks_subIn X sub_str).here ?_)
    simp only [Bool.false_eq_true, if_false, Bool.not_false, if_true]
    refine wpAny_bind (m := tryCompare (.ref x) _ (.str z t)) (wpAny_mono one (fun r s1 y => ?_) fun _ _ e => e)
    obtain ⟨y1, y2, y3⟩ := y
    subst y1
    refine wpAny_bind (m := tryCompare (.str z t) _ (.ref x)) (wpAny_mono (two s1 y2 y3) (fun r s2 y => ?_) fun _ _ e => e)
    obtain ⟨y1, y4⟩ := y
    subst y1
    exact wpAny_bind (wpAny_rule (wpAny_bind (wpAny_of_eq (rfl : isSame (.ref x) (.str z t) = pure false) (wpAny_pure y4))))
  · rename_i q
    exact absurd (by simp) q
end
/-! ### a def that answers NotImplemented -/
/-- what it promises: R says of arguments, the heap and a wish for the heap behind -/
def NiOk (P : Program) (w : World) (K : PySem.W.Frag) (mg : Str → Option Value) (base : Heap) (k : Nat) (f : Addr) (R : List V → Hp → (Hp → Prop) → Prop) : Prop :=
  ∀ (A : Around) (outer : List Env) (s : Shared) (H : Hp) (us : List Value) (vs : List V) (Rh : Hp → Prop), Room k A → Env0 P w K mg base A outer s H → Vals vs us → R vs H Rh →
    codeAny (model P w) A (.call (.ref f) ⟨us, []⟩) (fun r s' => match r with | .ok (.ret u) => u = .notImplemented ∧ CE outer P w H s (fun _ H' => Rh H') .none s' | .ok _ => False | .error _ => False) s
theorem ni_of {P : Program} {w : World} {K : PySem.W.Frag} {mg : Str → Option Value} {base : Heap} {k : Nat} {f : Addr} {name qual : Str} {params : Arguments} {body rest : List Stmt} {scope : Scope} {dV kV doc pm cdv ct oc : Value} {an od : Option Addr}
    {osl : Array (Option Value)} {N ps : List Str} {c : Expr} {p1 p2 p3 : Pos} {R : List V → Hp → (Hp → Prop) → Prop} (lk : K.lookup f = some ⟨oc, od, .func (PySem.W.fnOf name qual params body scope dV kV doc pm an cdv ct), osl⟩) (hcd : PySem.W.codeIn K cdv qual = true) (S : FnScope N ps scope)
    (hbs : body = .If c [.Return (some (.Name "NotImplemented" p1)) p2] [] p3 :: rest) (hb : Binds K (PySem.W.fnOf name qual params body scope dV kV doc pm an cdv ct) ps []) (len : ∀ vs H Rh, R vs H Rh → vs.length = ps.length) (hm : mg "NotImplemented" = none)
    (hgl : ∀ (A : Around) (outer : List Env) (s : Shared) (H : Hp), Gl (cxOf CX0 P w K mg base N qual scope f cdv A outer s H E0).nox "NotImplemented")
    (hc : ∀ (A : Around) (outer : List Env) (s : Shared) (H : Hp) (vs : List V) (Rh : Hp → Prop), Room k (A.deeper (envOfC qual scope s.heap.objs.size f cdv)) → R vs H Rh → ∃ tt, PT (cxOf CX0 P w K mg base N qual scope f cdv A outer s H E0).nox c tt ∧ tt (start N vs) H (fun b H' => b = true ∧ Rh H')) :
    NiOk P w K mg base (k + 1) f R := by
  intro A outer s H us vs Rh hr e0 r hR
  have hl := len _ _ _ hR
  have KX : K.In s.heap := e0.mod.kin.keeps fun b o e => (e0.bs b o e).1
  have lim : s.heap.NoLimit := e0.mod.nolimit.keeps fun b o e => (e0.bs b o e).1
  have hul : us.length = ps.length := by rw [← r.length]; exact hl
  have hbd := hb s us KX (by rw [List.append_nil]; exact hul)
  rw [List.append_nil] at hbd
  have hkind : ∀ y ∈ ps.zip us, scope.names.lookup y.1 = some .local ∨ (scope.names.lookup y.1 = some .cell ∧ ((cellsFrom (s.heap.objs.size + 1) scope.names []).lookup y.1).isSome = true) := fun ⟨n, v⟩ hy => by
    rcases S.par n (List.of_mem_zip hy).1 with q | q
    · exact .inl q
    · exact .inr ⟨q, PySem.W.cellsFrom_some _ _ _ (.inl q)⟩
  refine codeAny_call_function hr.depth (KX _ _ lk) rfl S.co S.gen rfl (PySem.W.codeRec_of KX hcd) (hbd _ _ _ _ ?_)
  refine wpAny_newFunctionEnv_cells S.kind hkind fun env he s1 x => ?_
  subst he
  refine ⟨lim.keeps x.toInCall.keep, codeAny_func ?_⟩
  obtain ⟨tt, ht, hq⟩ := hc A outer s H vs Rh (hr.deeper _) hR
  have I : Inv (cxOf CX0 P w K mg base N qual scope f cdv A outer s H E0) [] (start N vs) H s1 := inv_start S hr.hd e0 hl r x
  rw [hbs]
  have J := I.wish (fun _ _ => False)
  have run : wpAny (model P w) (cxOf CX0 P w K mg base N qual scope f cdv A outer s H E0).nox.A (exec (.If c [.Return (some (.Name "NotImplemented" p1)) p2] [] p3) (cxOf CX0 P w K mg base N qual scope f cdv A outer s H E0).nox.env)
      (fun fl s' => fl = .ret .notImplemented ∧ CE outer P w H s (fun _ H' => Rh H') .none s') (fun _ _ => False) s1 := by
    refine wpAny_If (wpAny_mono (ht.run [] s1 (start N vs) H _ J hq) (fun b s2 hs => ?_) fun _ _ e => e)
    obtain ⟨H1, I1, rfl, q1⟩ := hs
    refine wpAny_execs_cons (wpAny_Return_some (ld_blt I1 (hgl A outer s H) hm (u := .notImplemented) (by decide +kernel) ⟨rfl, .non, H1, I1.os, I1.bare, I1.base, I1.hok, rfl, q1⟩))
  refine wpAny_execs_cons (wpAny_mono run (fun fl s' hs => ?_) fun e s' hs => hs.elim)
  obtain ⟨rfl, h⟩ := hs
  exact ⟨rfl, h⟩
section
variable {X : Cx} {C f : Addr} {k : Nat} {R : List V → Hp → (Hp → Prop) → Prop} {CX : CXT} {fd : FuncData} {ps : List Str} {sp : Sp} {E : XK}
/-- o == text, the own == says NotImplemented -/
def rEqNI (C : Addr) (R : List V → Hp → (Hp → Prop) → Prop) : R2 := fun x y H Q => ∃ a dx fs z, x = .ref a ∧ y = .str z ∧ H a = some (.ins C dx fs) ∧ R [.ref a, .str z] H (fun H' => (∃ dx fs, H' a = some (.ins C dx fs)) ∧ Q (.bl false) H')
theorem op_eqNI (hs : PySem.W.findIn X.K (.ref C) "__eq__" = some (some (.ref f))) (hf : PySem.W.isFn X.K (.ref f) = true) (G : NiOk X.prog X.w X.K X.mg X.base k f R) (hr : Room k X.A) : OpR X (compareOp .Eq) (rEqNI C R) := by
  intro pins s σ H x y v u Q I rx ry h
  obtain ⟨a, dx, fs, z, rfl, rfl, ha, hR⟩ := h
  cases (show v = Value.ref a from rx)
  obtain ⟨t, rfl⟩ := ry
  obtain ⟨mA, J, _⟩ := ins_get I.hok ha
  obtain ⟨od, J, _⟩ := J.look
  show wpAny (model X.prog X.w) X.A (richCompare .Eq (.ref a) (.str z t)) (EP X pins σ Q) X.xe s
  refine rc_ni hr.units0 I.kIn J hs hf (wpAny_call (codeAny_mono (G X.A X.stack s H [.ref a, .str z t] [.ref a, .str z] _ hr I.env0 (.cons rfl (.cons ⟨t, rfl⟩ .nil)) hR) fun r s' hq => ?_))
  cases r with
  | error e => exact False.elim hq
  | ok fl =>
    cases fl with
    | next => exact False.elim hq
    | brk => exact False.elim hq
    | cont => exact False.elim hq
    | ret u =>
      obtain ⟨hu, hq⟩ := hq
      obtain ⟨v, H', I', _, ⟨dx', fs', ha'⟩, q⟩ := I.after hq
      obtain ⟨mA', J', _⟩ := ins_get I'.hok ha'
      obtain ⟨od', J', _⟩ := J'.look
      exact ⟨hu, ⟨_, J'.at_, rfl⟩, .bl false, H', I', rfl, q⟩
/-- o == p, both of the class -/
def rEqOwn (C : Addr) (sp : Sp) (E : XK) : R2 := fun x y H Q => ∃ a dx fs b dy gs, x = .ref a ∧ y = .ref b ∧ H a = some (.ins C dx fs) ∧ H b = some (.ins C dy gs) ∧ sp [.ref a, .ref b] H (fun v H' => ∃ r, v = .bl r ∧ Q (.bl r) H') E
theorem op_eqOwn (F : FnOk X.prog X.w X.K X.mg X.base CX k f fd ps sp) (hs : PySem.W.findIn X.K (.ref C) "__eq__" = some (some (.ref f))) (hf : PySem.W.isFn X.K (.ref f) = true) (hb : Binds X.K fd ps []) (hr : Room k X.A) (hx : Passes CX X E) : OpR X (compareOp .Eq) (rEqOwn C sp E) := by
  intro pins s σ H x y v u Q I rx ry h
  obtain ⟨a, dx, fs, b, dy, gs, rfl, rfl, ha, hb', hsp⟩ := h
  cases (show v = Value.ref a from rx)
  cases (show u = Value.ref b from ry)
  obtain ⟨mA, J, _⟩ := ins_get I.hok ha
  obtain ⟨mB, J', _⟩ := ins_get I.hok hb'
  obtain ⟨od, J, _⟩ := J.look
  obtain ⟨od', J', _⟩ := J'.look
  obtain ⟨m, hF⟩ := I.fr
  show wpAny (model X.prog X.w) X.A (richCompare .Eq (.ref a) (.ref b)) (EP X pins σ Q) X.xe s
  refine PySem.W.cmp_K (op := .Eq) (tb := .ref C) hr.units0 hF I.ok.mod.kin J J'.type (by simp [PySem.W.notFirst]) hs hf ?_
  have hl := F.len _ _ _ _ hsp
  have r2 : Vals [V.ref a, V.ref b] [Value.ref a, Value.ref b] := .cons rfl (.cons rfl .nil)
  refine wpAny_call (codeAny_mono (F.run X.A X.stack s H ⟨[.ref a, .ref b], []⟩ [.ref a, .ref b] [.ref a, .ref b] _ E hr I.env0 (by
    have := hb s [.ref a, .ref b] I.kIn (by simpa using hl)
    simpa using this) r2 hsp) fun r s' hq => ?_)
  cases r with
  | error e => exact hx pins σ H s e s' I hq
  | ok fl =>
    cases fl with
    | ret w =>
      obtain ⟨z, H', I', rz, r, ez, q⟩ := I.after hq
      subst ez
      cases rz
      exact ⟨.bl r, H', I', rfl, q⟩
    | next => exact False.elim hq
    | brk => exact False.elim hq
    | cont => exact False.elim hq
/-- str(o) by an own __str__ -/
def rStrOwn (C : Addr) (sp : Sp) (E : XK) : List V → Hp → VK → Prop := fun xs H Q => ∃ a dx fs, xs = [V.ref a] ∧ H a = some (.ins C dx fs) ∧ sp [.ref a] H (fun v H' => ∃ z, v = .str z ∧ Q (.str z) H') E
theorem call_strOwn (hs : PySem.W.findIn X.K (.ref C) "__str__" = some (some (.ref f))) (hf : PySem.W.isFn X.K (.ref f) = true) (F : FnR X.prog X.w X.K X.mg X.base CX k f sp) (hr : Room (k + 2) X.A) (hx : Passes CX X E) : CallR X (.type "str") (rStrOwn C sp E) := by
  intro pins s σ H xs us Q I r h
  obtain ⟨a, dx, fs, rfl, ha, q⟩ := h
  obtain ⟨u, rfl, ru⟩ := r.one
  cases (show u = Value.ref a from ru)
  obtain ⟨mA, J, _⟩ := ins_get I.hok ha
  obtain ⟨od, J, _⟩ := J.look
  have hr2 : Room k X.A.in1.in1 := (show Room (k + 1) X.A.in1 from Room.in1 hr).in1
  refine PySem.W.kso_call hr2.units0 I.kIn J hs hf (wpAny_mono (wpAny_call (SlX.run_at (us := [.ref a]) (ws := [.ref a]) F hr2 I.env0.in1.in1 hx I (.cons rfl .nil) q)) (fun w s' z => ?_) fun _ _ x => x)
  obtain ⟨z', H', I', rz, i, ei, qz⟩ := z
  subst ei
  obtain ⟨t, e⟩ := (show ∃ t, w = Value.str i t from rz)
  cases e
  exact ⟨.str i, H', I', ⟨t, rfl⟩, qz⟩
end
end R7

set_option maxRecDepth 100000
set_option maxHeartbeats 4000000
/-! == of an instance and a list, the own def says NotImplemented -/
namespace RL
open PySem PySem.Spec PyProof.Rows L2
/-! ### list.__eq__, list.__ne__ asked of an instance -/
section
variable {K : PySem.W.Frag} {C : Addr}
theorem not_lst {prog : Program} {w : World} {A : Around} {E : Value → Shared → Prop} {s : Shared} {x : Addr} {o : Obj} (ho : s.heap.get? x = some o) (hc : o.cls = .ref C) (X : K.In s.heap) (e : PySem.W.subIn K (.ref C) (.type "list") = some false) {Q : Bool → Shared → Prop} (hq : Q false s) :
    wpAny (model prog w) A (isInstance (.ref x) (.type "list")) Q E s := by
  simp only [isInstance]
  refine wpAny_bind (wpAny_typeOf_ref (o := o) ho ?_)
  rw [hc]
  exact (PySem.W.looks_subIn (M := model prog w) X e).here hq
theorem lst_eq_ref (l x : Addr) (o : Obj) (hc : o.cls = .ref C) (e : PySem.W.subIn K (.ref C) (.type "list") = some false) :
    Meets (Builtin.«list.__eq__» ⟨[.ref l, .ref x], []⟩) (fun _ R s => s.heap.get? x = some o ∧ K.In s.heap ∧ R (.ok (.ret .notImplemented)) s) :=
  .of_wp fun prog w A R s h => by
    obtain ⟨hl, X, h⟩ := h
    have hI : ∀ {Q : Bool → Shared → Prop}, Q false s → wpAny (model prog w) A.in1 (isInstance (.ref x) (.type "list")) Q (fun e s' => R (.error e) s') s := fun hq => not_lst hl hc X e hq
    wp_walk using hI
    exact ⟨_, rfl, h⟩
theorem lst_ne_ref (l x : Addr) (o : Obj) (hc : o.cls = .ref C) (e : PySem.W.subIn K (.ref C) (.type "list") = some false) :
    Meets (Builtin.«list.__ne__» ⟨[.ref l, .ref x], []⟩) (fun _ R s => s.heap.get? x = some o ∧ K.In s.heap ∧ R (.ok (.ret .notImplemented)) s) :=
  .of_wp fun prog w A R s h => by
    obtain ⟨hl, X, h⟩ := h
    have hI : ∀ {Q : Bool → Shared → Prop}, Q false s → wpAny (model prog w) A.in1 (isInstance (.ref x) (.type "list")) Q (fun e s' => R (.error e) s') s := fun hq => not_lst hl hc X e hq
    wp_walk using hI
    exact ⟨_, rfl, h⟩
end
section
variable {prog : Program} {w : World} {A : Around} {E : Value → Shared → Prop} {s : Shared} {K : PySem.W.Frag} {x C f l : Addr} {ox : Obj} {od : Option Obj}
theorem sub_lst : PySem.W.subIn K (.type "list") (.ref C) = some false := by
  have e : fastBuiltinMro "list" = some [.type "list", .type "object"] := by decide +kernel
  show (fastBuiltinMro "list").map (·.contains (.ref C)) = some false
  rw [e]
  first
    | rfl
    | simp
theorem same_no {Q : Bool → Shared → Prop} {o o2 : Obj} (h1 : s.heap.get? x = some o) (hc : o.cls = .ref C) (h2 : s.heap.get? l = some o2) (hc2 : o2.cls = .type "list") (hq : Q false s) : wpAny (model prog w) A (isSame (.ref x) (.ref l)) Q E s := by
  have hne : (x == l) = false := by
    refine beq_eq_false_iff_ne.mpr fun e => ?_
    subst e
    rw [h1] at h2; cases h2
    rw [hc] at hc2; cases hc2
  unfold isSame
  simp only [hne, Bool.false_eq_true, if_false]
  refine wpAny_bind (wpAny_load h1 (wpAny_bind (wpAny_load h2 ?_)))
  rw [hc, hc2]
  exact wpAny_pure hq
/-- what stands behind the own def: the instance, the list -/
def Behind (K : PySem.W.Frag) (x l C : Addr) (s' : Shared) : Prop := (∃ o, s'.heap.get? x = some o ∧ o.cls = .ref C) ∧ (∃ o, s'.heap.get? l = some o ∧ o.cls = .type "list") ∧ K.In s'.heap
theorem rc_niL {op : CmpOp} {b : Bool} (hop : (op = .Eq ∧ b = false) ∨ (op = .NotEq ∧ b = true)) {Q : Value → Shared → Prop} (hu : A.units < cLine) (X : K.In s.heap) (I : PySem.W.InstAt s.heap x ox C od) (hT : s.TypeIs (.ref l) "list") (hs : PySem.W.findIn K (.ref C) (cmpInfo op).2.1 = some (some (.ref f))) (hf : PySem.W.isFn K (.ref f) = true) (e : PySem.W.subIn K (.ref C) (.type "list") = some false)
    (hcall : wpAny (model prog w) A (call (.ref f) [.ref x, .ref l]) (fun v s' => v = .notImplemented ∧ Behind K x l C s' ∧ Q (.bool b) s') E s) :
    wpAny (model prog w) A (richCompare op (.ref x) (.ref l)) Q E s := by
  have one : wpAny (model prog w) A (tryCompare (.ref x) (cmpInfo op).2.1 (.ref l)) (fun r s' => r = none ∧ Behind K x l C s' ∧ Q (.bool b) s') E s := by
    unfold tryCompare
    refine wpAny_bind (PySem.W.ifBound_K X I hs hf (wpAny_mono hcall (fun v s' hv => ?_) fun _ _ e => e))
    obtain ⟨rfl, h1, h2⟩ := hv
    exact wpAny_pure ⟨rfl, h1, h2⟩
  have two : ∀ s', Behind K x l C s' → Q (.bool b) s' → wpAny (model prog w) A (tryCompare (.ref l) (cmpInfo op).2.2 (.ref x)) (fun r s2 => r = none ∧ Behind K x l C s2 ∧ Q (.bool b) s2) E s' := fun s' hb hq => by
    obtain ⟨⟨o, h1, h2⟩, ⟨o2, h3, h4⟩, h5⟩ := id hb
    rcases hop with ⟨rfl, _⟩ | ⟨rfl, _⟩
    · exact wpAny_tryCompare_declines ⟨o2, h3, h4⟩ F.slot_list_eq (call_meets F.slot_list_eq ⟨o2, h3, h4⟩ F.entry_list_eq (F.args_list_eq_2 _ _) (lst_eq_ref l x o h2 e) ⟨h1, h5, rfl, rfl, hb, hq⟩)
    · exact wpAny_tryCompare_declines ⟨o2, h3, h4⟩ F.slot_list_ne (call_meets F.slot_list_ne ⟨o2, h3, h4⟩ F.entry_list_ne (F.args_list_ne_2 _ _) (lst_ne_ref l x o h2 e) ⟨h1, h5, rfl, rfl, hb, hq⟩)
  unfold richCompare
  simp only [oneThing_ref]
  refine wpAny_holding (wpAny_bind (wpAny_cRoomFor hu ?_))
  refine wpAny_bind (I.type.here ?_)
  refine wpAny_bind (wpAny_typeOf hT ?_)
  split
  · refine wpAny_bind ((PySem.W.looks_subIn X sub_lst).here ?_)
    simp only [Bool.false_eq_true, if_false, Bool.not_false, if_true]
    refine wpAny_bind (m := tryCompare (.ref x) _ (.ref l)) (wpAny_mono one (fun r s1 y => ?_) fun _ _ e => e)
    obtain ⟨y1, y2, y3⟩ := y
    subst y1
    refine wpAny_bind (m := tryCompare (.ref l) _ (.ref x)) (wpAny_mono (two s1 y2 y3) (fun r s2 y => ?_) fun _ _ e => e)
    obtain ⟨y1, ⟨⟨o, h1, h2⟩, ⟨o2, h3, h4⟩, h5⟩, y4⟩ := y
    subst y1
    rcases hop with ⟨rfl, rfl⟩ | ⟨rfl, rfl⟩
    · exact wpAny_bind (wpAny_rule (wpAny_bind (same_no h1 h2 h3 h4 (wpAny_pure y4))))
    · exact wpAny_bind (wpAny_rule (wpAny_bind (same_no h1 h2 h3 h4 (wpAny_pure y4))))
  · rename_i q
    exact absurd (by simp) q
end
section
variable {X : Cx} {C f : Addr} {k : Nat} {R : List V → Hp → (Hp → Prop) → Prop} {CX : CXT} {fd : FuncData} {ps : List Str} {sp : Sp} {E : XK}
/-- o == list, o != list, the own def says NotImplemented -/
def rNiL (C : Addr) (b : Bool) (R : List V → Hp → (Hp → Prop) → Prop) : R2 := fun x y H Q => ∃ a dx fs l xs, x = .ref a ∧ y = .ref l ∧ H a = some (.ins C dx fs) ∧ H l = some (.lst xs) ∧ R [.ref a, .ref l] H (fun H' => (∃ dx fs, H' a = some (.ins C dx fs)) ∧ (∃ xs, H' l = some (.lst xs)) ∧ Q (.bl b) H')
theorem op_niL {op : CmpOp} {b : Bool} (hop : (op = .Eq ∧ b = false) ∨ (op = .NotEq ∧ b = true)) (hs : PySem.W.findIn X.K (.ref C) (cmpInfo op).2.1 = some (some (.ref f))) (hf : PySem.W.isFn X.K (.ref f) = true) (e : PySem.W.subIn X.K (.ref C) (.type "list") = some false) (G : R7.NiOk X.prog X.w X.K X.mg X.base k f R) (hr : Room k X.A) : OpR X (compareOp op) (rNiL C b R) := by
  intro pins s σ H x y v u Q I rx ry h
  obtain ⟨a, dx, fs, l, xs, rfl, rfl, ha, hl, hR⟩ := h
  cases (show v = Value.ref a from rx)
  cases (show u = Value.ref l from ry)
  obtain ⟨mA, J, _⟩ := ins_get I.hok ha
  obtain ⟨od, J, _⟩ := J.look
  obtain ⟨its, r, ⟨o, n, ho, hc, hd⟩, hz⟩ := I.list (SqL.of hl)
  have main : wpAny (model X.prog X.w) X.A (richCompare op (.ref a) (.ref l)) (EP X pins σ Q) X.xe s := by
    refine rc_niL hop hr.units0 I.kIn J ⟨o, ho, hc⟩ hs hf e (wpAny_call (codeAny_mono (G X.A X.stack s H [.ref a, .ref l] [.ref a, .ref l] _ hr I.env0 (.cons rfl (.cons rfl .nil)) hR) fun r s' hq => ?_))
    cases r with
    | error e => exact False.elim hq
    | ok fl =>
      cases fl with
      | next => exact False.elim hq
      | brk => exact False.elim hq
      | cont => exact False.elim hq
      | ret u =>
        obtain ⟨hu, hq⟩ := hq
        obtain ⟨v, H', I', _, ⟨dx', fs', ha'⟩, ⟨xs', hl'⟩, q⟩ := I.after hq
        obtain ⟨mA', J', _⟩ := ins_get I'.hok ha'
        obtain ⟨od', J', _⟩ := J'.look
        obtain ⟨its', r', ⟨o', n', ho', hc', hd'⟩, hz'⟩ := I'.list (SqL.of hl')
        exact ⟨hu, ⟨⟨_, J'.at_, rfl⟩, ⟨o', ho', hc'⟩, I'.kIn⟩, .bl b, H', I', rfl, q⟩
  rcases hop with ⟨rfl, _⟩ | ⟨rfl, _⟩
  · exact main
  · exact main
end
end RL

set_option maxRecDepth 100000
set_option maxHeartbeats 2000000
/-! o op p, o op= p by an own def of their class -/
namespace RB
open PySem PySem.Spec PyProof.Rows L2
/-- what the class must have: its mro begins with itself, its own def of the name at f -/
structure OpC (K : PySem.W.Frag) (C : Addr) (name : Str) (f : Addr) : Prop where
  cd : ∃ cd rest, PySem.W.clsIn K C = some cd ∧ cd.mro = .ref C :: rest
  at_ : PySem.W.findIn K (.ref C) name = some (some (.ref f))
  fn : PySem.W.typeIn K (.ref f) = some (.type "function")
section
variable {prog : Program} {w : World} {A : Around} {E : Value → Shared → Prop} {s : Shared} {K : PySem.W.Frag} {x y C f : Addr} {ox oy : Obj} {od odd : Option Obj}
theorem mro_own (X : K.In s.heap) {name : Str} (c : OpC K C name f) : ∃ rest, PySem.W.Looks (model prog w) s.heap (mroOf (.ref C)) (.ref C :: rest) := by
  obtain ⟨cd, rest, h1, h2⟩ := c.cd
  refine ⟨rest, ?_⟩
  rw [← h2]
  exact (PySem.W.looks_clsIn X h1).andThen .now
theorem fills_own {nm : String} (X : K.In s.heap) (c : OpC K C (dunder nm) f) {Q : Bool → Shared → Prop} (q : Q true s) : wpAny (model prog w) A (fillsNumberSlot (.ref C) nm) Q E s := by
  obtain ⟨rest, hm⟩ := mro_own (prog := prog) (w := w) X c
  unfold fillsNumberSlot
  refine wpAny_bind (hm.here ?_)
  show wpAny _ _ (List.anyM _ _) _ _ _
  unfold List.anyM
  refine wpAny_bind ?_
  show wpAny _ _ (List.anyM _ [dunder nm, dunderR nm]) _ _ _
  unfold List.anyM
  refine wpAny_bind (wpAny_bind ((PySem.W.looks_findIn X c.at_).here ?_))
  show wpAny _ _ (if (!ownNameWrapper (.ref f) (dunder nm)) = true then _ else _) _ _ _
  rw [if_pos (show (!ownNameWrapper (.ref f) (dunder nm)) = true from rfl)]
  exact wpAny_pure (wpAny_pure (wpAny_pure q))
theorem try_own {name : Str} {o : Value} {Q : Option Value → Shared → Prop} (X : K.In s.heap) (I : PySem.W.InstAt s.heap x ox C od) (c : OpC K C name f)
    (h : wpAny (model prog w) A (call (.ref f) [.ref x, o]) (fun v s' => v ≠ .notImplemented ∧ Q (some v) s') E s) : wpAny (model prog w) A (tryMethod (.ref x) name o) Q E s := by
  unfold tryMethod
  refine wpAny_bind (PySem.W.special_fn X I c.at_ c.fn (wpAny_mono h (fun v s' hv => ?_) fun _ _ z => z))
  obtain ⟨hn, q⟩ := hv
  cases v <;> first | exact absurd rfl hn | exact wpAny_pure q
theorem own_bin1 {nm : String} {Q : Option Value → Shared → Prop} (X : K.In s.heap) (I : PySem.W.InstAt s.heap x ox C od) (J : PySem.W.InstAt s.heap y oy C odd) (c : OpC K C (dunder nm) f)
    (h : wpAny (model prog w) A (call (.ref f) [.ref x, .ref y]) (fun v s' => v ≠ .notImplemented ∧ Q (some v) s') E s) : wpAny (model prog w) A (binaryOp1 nm (.ref x) (.ref y)) Q E s := by
  unfold binaryOp1
  refine wpAny_bind (I.type.here (wpAny_bind (J.type.here (wpAny_bind (fills_own X c ?_)))))
  have e : (Value.ref C == Value.ref C) = true := beq_self_eq_true _
  simp only [e, if_true]
  refine wpAny_bind (wpAny_pure ?_)
  simp only [Bool.and_false, Bool.false_and, Bool.false_eq_true, if_false]
  refine wpAny_bind (wpAny_pure ?_)
  simp only [Bool.false_eq_true, if_false]
  refine wpAny_bind (try_own X I c (wpAny_mono h (fun v s' hv => ⟨hv.1, ?_⟩) fun _ _ z => z))
  exact wpAny_pure hv.2
theorem own_bin {Q : Value → Shared → Prop} {op : Operator} (X : K.In s.heap) (I : PySem.W.InstAt s.heap x ox C od) (J : PySem.W.InstAt s.heap y oy C odd) (c : OpC K C (dunder op.info.2) f)
    (h : wpAny (model prog w) A (call (.ref f) [.ref x, .ref y]) (fun v s' => v ≠ .notImplemented ∧ Q v s') E s) : wpAny (model prog w) A (binaryOp op (.ref x) (.ref y)) Q E s := by
  unfold binaryOp
  refine wpAny_holding ?_
  refine wpAny_bind (own_bin1 X I J c (wpAny_mono h (fun v s' hv => ⟨hv.1, ?_⟩) fun _ _ z => z))
  exact wpAny_pure hv.2
theorem fillsI_own {nm : String} {b : Bool} (X : K.In s.heap) (c : OpC K C (dunderI nm) f) {Q : Bool → Shared → Prop} (q : Q true s) : wpAny (model prog w) A (fillsInplaceSlot (.ref C) nm b) Q E s := by
  obtain ⟨rest, hm⟩ := mro_own (prog := prog) (w := w) X c
  unfold fillsInplaceSlot
  refine wpAny_bind (hm.here ?_)
  show wpAny _ _ (List.anyM _ _) _ _ _
  unfold List.anyM
  refine wpAny_bind (wpAny_bind ((PySem.W.looks_findIn X c.at_).here ?_))
  show wpAny _ _ (if (!ownNameWrapper (.ref f) (dunderI nm)) = true then _ else _) _ _ _
  rw [if_pos (show (!ownNameWrapper (.ref f) (dunderI nm)) = true from rfl)]
  exact wpAny_pure (wpAny_pure q)
theorem own_inp {Q : Value → Shared → Prop} {op : Operator} {o : Value} (X : K.In s.heap) (I : PySem.W.InstAt s.heap x ox C od) (c : OpC K C (dunderI op.info.2) f)
    (h : wpAny (model prog w) A (call (.ref f) [.ref x, o]) (fun v s' => v ≠ .notImplemented ∧ Q v s') E s) : wpAny (model prog w) A (inplaceOp op (.ref x) o) Q E s := by
  unfold inplaceOp
  refine wpAny_holding ?_
  refine wpAny_bind (I.type.here (wpAny_bind (fillsI_own X c ?_)))
  rw [if_pos rfl]
  refine wpAny_bind (try_own X I c (wpAny_mono h (fun v s' hv => ⟨hv.1, ?_⟩) fun _ _ z => z))
  exact wpAny_bind (wpAny_rule (wpAny_pure hv.2))
end
section
variable {X : Cx} {C f : Addr} {k : Nat} {CX : CXT} {fd : FuncData} {ps : List Str} {sp : Sp} {E : XK}
/-- a op b, both instances of the class at C, by its own def, which hands back an instance -/
def rBinO (C : Addr) (sp : Sp) (E : XK) : R2 := fun x y H Q => ∃ a b dx fs dy gs, x = .ref a ∧ y = .ref b ∧ H a = some (.ins C dx fs) ∧ H b = some (.ins C dy gs) ∧ sp [.ref a, .ref b] H (fun v H' => (∃ r, v = .ref r) ∧ Q v H') E
theorem op_binO {op : Operator} (F : FnOk X.prog X.w X.K X.mg X.base CX k f fd ps sp) (c : OpC X.K C (dunder op.info.2) f) (hb : Binds X.K fd ps []) (hr : Room k X.A) (hx : Passes CX X E) : OpR X (binaryOp op) (rBinO C sp E) := by
  intro pins s σ H x y v u Q I rx ry h
  obtain ⟨a, b, dx, fs, dy, gs, rfl, rfl, ha, hb', hsp⟩ := h
  cases (show v = Value.ref a from rx)
  cases (show u = Value.ref b from ry)
  obtain ⟨mA, J, _⟩ := ins_get I.hok ha
  obtain ⟨od, J, _⟩ := J.look
  obtain ⟨mB, J2, _⟩ := ins_get I.hok hb'
  obtain ⟨od2, J2, _⟩ := J2.look
  refine own_bin I.kIn J J2 c (wpAny_mono (run_fn (us := [.ref a, .ref b]) (vs := [.ref a, .ref b]) (ds := []) (dvs := []) F hr hb .nil hx I (.cons rfl (.cons rfl .nil)) hsp) (fun v s' hv => ?_) fun _ _ z => z)
  obtain ⟨z, H', I', rz, ⟨r, rfl⟩, q⟩ := hv
  cases rz
  exact ⟨fun e => (by cases e), .ref r, H', I', rfl, q⟩
theorem ip_binO {op : Operator} (F : FnOk X.prog X.w X.K X.mg X.base CX k f fd ps sp) (c : OpC X.K C (dunderI op.info.2) f) (hb : Binds X.K fd ps []) (hr : Room k X.A) (hx : Passes CX X E) : OpR X (inplaceOp op) (rBinO C sp E) := by
  intro pins s σ H x y v u Q I rx ry h
  obtain ⟨a, b, dx, fs, dy, gs, rfl, rfl, ha, hb', hsp⟩ := h
  cases (show v = Value.ref a from rx)
  cases (show u = Value.ref b from ry)
  obtain ⟨mA, J, _⟩ := ins_get I.hok ha
  obtain ⟨od, J, _⟩ := J.look
  refine own_inp I.kIn J c (wpAny_mono (run_fn (us := [.ref a, .ref b]) (vs := [.ref a, .ref b]) (ds := []) (dvs := []) F hr hb .nil hx I (.cons rfl (.cons rfl .nil)) hsp) (fun v s' hv => ?_) fun _ _ z => z)
  obtain ⟨z, H', I', rz, ⟨r, rfl⟩, q⟩ := hv
  cases rz
  exact ⟨fun e => (by cases e), .ref r, H', I', rfl, q⟩
end
end RB

set_option maxRecDepth 100000
set_option maxHeartbeats 2000000
/-! o op p, o op= p by an own def of their class, what is raised being wished for at the slots -/
namespace RB
open PySem PySem.Spec PyProof.Rows L2
section
variable {X : Cx} {C f : Addr} {k : Nat} {CX : CXT} {fd : FuncData} {ps : List Str} {sp : Sp} {E : L2.St → XK} {l r : Expr} {tl tr : TE} {op : Operator} {pos : Pos}
def tBinO (C : Addr) (sp : Sp) (E : L2.St → XK) (tl tr : TE) : TE := fun σ H Q => tl σ H fun x H1 => tr σ H1 fun y H2 => ∃ a b dx fs dy gs, x = .ref a ∧ y = .ref b ∧ H2 a = some (.ins C dx fs) ∧ H2 b = some (.ins C dy gs) ∧ sp [.ref a, .ref b] H2 (fun v H' => (∃ r, v = .ref r) ∧ Q v H') (E σ)
theorem run_binO {pins : List (Addr × Obj)} {σ : L2.St} {H : Hp} {s : Shared} {Q : VK} {x y : V} {v u : Value} (F : FnOk X.prog X.w X.K X.mg X.base CX k f fd ps sp) (c : OpC X.K C (dunder op.info.2) f) (hb : Binds X.K fd ps []) (hr : Room k X.A) (hx : PassesAt CX X σ (E σ)) (I : Inv X pins σ H s) (rx : RelV x v) (ry : RelV y u)
    (h : ∃ a b dx fs dy gs, x = .ref a ∧ y = .ref b ∧ H a = some (.ins C dx fs) ∧ H b = some (.ins C dy gs) ∧ sp [.ref a, .ref b] H (fun v H' => (∃ r, v = .ref r) ∧ Q v H') (E σ)) : wpAny (model X.prog X.w) X.A (binaryOp op v u) (EP X pins σ Q) X.xe s := by
  obtain ⟨a, b, dx, fs, dy, gs, rfl, rfl, ha, hb', hsp⟩ := h
  cases (show v = Value.ref a from rx)
  cases (show u = Value.ref b from ry)
  obtain ⟨mA, J, _⟩ := ins_get I.hok ha
  obtain ⟨od, J, _⟩ := J.look
  obtain ⟨mB, J2, _⟩ := ins_get I.hok hb'
  obtain ⟨od2, J2, _⟩ := J2.look
  refine own_bin I.kIn J J2 c (wpAny_mono (run_fnSD (us := [.ref a, .ref b]) (vs := [.ref a, .ref b]) (ds := []) (dvs := []) F hr hb .nil hx I (.cons rfl (.cons rfl .nil)) hsp) (fun v s' hv => ?_) fun _ _ z => z)
  obtain ⟨z, H', I', rz, ⟨r, rfl⟩, q⟩ := hv
  cases rz
  exact ⟨fun e => (by cases e), .ref r, H', I', rfl, q⟩
theorem pe_binO (hl : PE X l tl) (hr' : PE X r tr) (F : FnOk X.prog X.w X.K X.mg X.base CX k f fd ps sp) (c : OpC X.K C (dunder op.info.2) f) (hb : Binds X.K fd ps []) (hr : Room k X.A) (hx : ∀ σ, PassesAt CX X σ (E σ)) : PE X (.BinOp l op r pos) (tBinO C sp E tl tr) := by
  refine ⟨fun pins s σ H Q I h => ?_⟩
  exact wpAny_BinOp (binT hl hr' I h fun v u s2 x y H2 I2 rx ry q => run_binO F c hb hr (hx σ) I2 rx ry q)
theorem run_inpO {pins : List (Addr × Obj)} {σ : L2.St} {H : Hp} {s : Shared} {Q : VK} {x y : V} {v u : Value} (F : FnOk X.prog X.w X.K X.mg X.base CX k f fd ps sp) (c : OpC X.K C (dunderI op.info.2) f) (hb : Binds X.K fd ps []) (hr : Room k X.A) (hx : PassesAt CX X σ (E σ)) (I : Inv X pins σ H s) (rx : RelV x v) (ry : RelV y u)
    (h : ∃ a b dx fs, x = .ref a ∧ y = .ref b ∧ H a = some (.ins C dx fs) ∧ sp [.ref a, .ref b] H (fun v H' => (∃ r, v = .ref r) ∧ Q v H') (E σ)) : wpAny (model X.prog X.w) X.A (inplaceOp op v u) (EP X pins σ Q) X.xe s := by
  obtain ⟨a, b, dx, fs, rfl, rfl, ha, hsp⟩ := h
  cases (show v = Value.ref a from rx)
  cases (show u = Value.ref b from ry)
  obtain ⟨mA, J, _⟩ := ins_get I.hok ha
  obtain ⟨od, J, _⟩ := J.look
  refine own_inp I.kIn J c (wpAny_mono (run_fnSD (us := [.ref a, .ref b]) (vs := [.ref a, .ref b]) (ds := []) (dvs := []) F hr hb .nil hx I (.cons rfl (.cons rfl .nil)) hsp) (fun v s' hv => ?_) fun _ _ z => z)
  obtain ⟨z, H', I', rz, ⟨r, rfl⟩, q⟩ := hv
  cases rz
  exact ⟨fun e => (by cases e), .ref r, H', I', rfl, q⟩
/-- name op= e -/
def tAugO (i : Nat) (C : Addr) (sp : Sp) (E : L2.St → XK) (te : TE) : TS := fun D σ H => ∃ x, σ[i]? = some (some x) ∧ te σ H fun y H1 => ∃ a b dx fs, x = .ref a ∧ y = .ref b ∧ H1 a = some (.ins C dx fs) ∧ sp [.ref a, .ref b] H1 (fun v H' => (∃ r, v = .ref r) ∧ D.nx (σ.set i (some v)) H') (E σ)
theorem ps_augO {i : Nat} {x : Str} {e : Expr} {te : TE} {pos' : Pos} (hN : X.N.Nodup) (hi : X.N[i]? = some x) (hx : Loc X.env.scope x) (he : PE X e te) (F : FnOk X.prog X.w X.K X.mg X.base CX k f fd ps sp) (c : OpC X.K C (dunderI op.info.2) f) (hb : Binds X.K fd ps []) (hr : Room k X.A) (hxe : ∀ σ, PassesAt CX X σ (E σ))
    (hf : X.fn x = true ∨ X.env.scope.names.lookup x = some .local := by first | exact .inl rfl | exact .inr rfl | assumption) : PS X (.AugAssign (.Name x pos') op e pos) (tAugO i C sp E te) := by
  refine ⟨fun pins s σ H D I h => ?_⟩
  obtain ⟨v, e1, h⟩ := h
  obtain ⟨m, hn, hl⟩ := I.loc
  have vis : Vis X.env.scope x := by rcases hx with k | k; exact .inl k; exact .inr (.inl k)
  obtain ⟨u, r, l⟩ := hl i x v hi e1 vis
  refine wpAny_AugAssign_Name ?_
  have go : wpAny (model X.prog X.w) X.A (eval e X.env) (fun w s₂ => wpAny (model X.prog X.w) X.A (inplaceOp op u w) (fun r s₃ => wpAny (model X.prog X.w) X.A (storeName X.env x r) (fun _ => SP X pins D .next) X.xe s₃) X.xe s₂) X.xe s := by
    refine thn (he.run pins s σ H _ I h) fun w s1 ⟨y, H1, I1, r1, q1⟩ => ?_
    refine thn (run_inpO (Q := fun v H' => D.nx (σ.set i (some v)) H') F c hb hr (hxe σ) I1 r r1 q1) fun z s2 ⟨zv, H2, I2, r2, q2⟩ => ?_
    exact store_ok I2 hN hi hx r2 (fun s3 I3 => ⟨_, H2, I3, q2⟩) hf
  rcases l with ⟨hk, hm⟩ | ⟨hk, c, hc, hcell⟩
  · exact wpAny_loadName_local I.ok.kind hk hn hm go
  · rcases hk with hk | hk
    · exact wpAny_loadName_cell I.ok.kind hk hc hcell go
    · rcases hx with k | k
      · have : X.env.scope.names.lookup x = some .free := hk
        rw [k] at this; cases this
      · have : X.env.scope.names.lookup x = some .free := hk
        rw [k] at this; cases this
end
end RB

set_option maxRecDepth 100000
set_option maxHeartbeats 8000000
namespace K37
open PySem PySem.Spec PyProof.Rows L2
/-! ### blocks as data -/
def pcD (p : Pc) : PyData := .tuple [.int p.h, .tuple (.str p.tw :: p.tn.toList.map PyData.int), .tuple (p.notes.map PyData.int), .tuple (p.calls.map PyData.int)]
def bkD (b : Bk) : PyData := .tuple [.int b.a, .int b.b, .int b.c, .bool b.f, .tuple (b.ps.map pcD)]
def bsD (bs : List Bk) : PyData := .list (bs.map bkD)
theorem can_ints : ∀ l : List Int, PyData.canLayAll0 (l.map PyData.int) = true ∧ PyData.depthAll (l.map PyData.int) = 0
  | [] => ⟨rfl, rfl⟩
  | x :: l => by
    obtain ⟨h1, h2⟩ := can_ints l
    refine ⟨?_, ?_⟩
    · show (true && PyData.canLayAll0 (l.map PyData.int)) = true
      rw [h1]; rfl
    · show max 0 (PyData.depthAll (l.map PyData.int)) = 0
      rw [h2]; rfl
theorem can_all {l : List PyData} {n : Nat} (h : ∀ d ∈ l, d.canLay0 = true ∧ d.depth ≤ n) : PyData.canLayAll0 l = true ∧ PyData.depthAll l ≤ n := by
  induction l with
  | nil => exact ⟨rfl, Nat.zero_le _⟩
  | cons d l ih =>
    obtain ⟨h1, h2⟩ := ih fun x hx => h x (List.mem_cons_of_mem _ hx)
    obtain ⟨h3, h4⟩ := h d List.mem_cons_self
    refine ⟨?_, ?_⟩
    · show (d.canLay0 && PyData.canLayAll0 l) = true
      rw [h3, h1]; rfl
    · show max d.depth (PyData.depthAll l) ≤ n
      omega
theorem words_can : ∀ z ∈ words, PyData.canLay0 (.str z) = true := by decide +kernel
theorem pcD_can {p : Pc} (h : p.tw ∈ words) : (pcD p).canLay0 = true ∧ (pcD p).depth ≤ 2 := by
  obtain ⟨n1, n2⟩ := can_ints p.notes
  obtain ⟨c1, c2⟩ := can_ints p.calls
  obtain ⟨t1, t2⟩ := can_ints p.tn.toList
  refine ⟨?_, ?_⟩
  · show (true && ((PyData.canLay0 (.str p.tw) && PyData.canLayAll0 (p.tn.toList.map PyData.int)) && (PyData.canLayAll0 (p.notes.map PyData.int) && (PyData.canLayAll0 (p.calls.map PyData.int) && true)))) = true
    rw [words_can _ h, t1, n1, c1]; rfl
  · show max 0 (max (max 0 (PyData.depthAll (p.tn.toList.map PyData.int)) + 1) (max (PyData.depthAll (p.notes.map PyData.int) + 1) (max (PyData.depthAll (p.calls.map PyData.int) + 1) 0))) + 1 ≤ 2
    rw [t2, n2, c2]; decide
theorem bkD_can {b : Bk} (h : ∀ p ∈ b.ps, p.tw ∈ words) : (bkD b).canLay0 = true ∧ (bkD b).depth ≤ 4 := by
  obtain ⟨h1, h2⟩ := can_all (l := b.ps.map pcD) (n := 2) fun d hd => by
    obtain ⟨p, hp, rfl⟩ := List.mem_map.mp hd
    exact pcD_can (h p hp)
  refine ⟨?_, ?_⟩
  · show (true && (true && (true && (true && (PyData.canLayAll0 (b.ps.map pcD) && true))))) = true
    rw [h1]; rfl
  · show max 0 (max 0 (max 0 (max 0 (max (PyData.depthAll (b.ps.map pcD) + 1) 0)))) + 1 ≤ 4
    omega
theorem bsD_sh {H : Hp} {bs : List Bk} (h : BsT H bs) : SeqAt.shaped (bsD bs) = true := by
  obtain ⟨h1, h2⟩ := can_all (l := bs.map bkD) (n := 4) fun d hd => by
    obtain ⟨b, hb, rfl⟩ := List.mem_map.mp hd
    exact bkD_can fun p hp => ((h b hb).2.2.2 p hp).2.2.1
  show (PyData.canLayAll0 (bs.map bkD) && decide (PyData.depthAll (bs.map bkD) + 1 ≤ 64)) = true
  rw [h1, decide_eq_true (by omega)]; rfl
theorem sh_eq {d : PyData} (h : SeqAt.shaped d = true) : PyData.eqv d d = true := SeqAt.eqv_refl d (SeqAt.canLay_of_shaped h)
section
variable {K : PySem.W.Frag}
theorem dp_ints {H : Hp} : ∀ l : List Int, DpAll K H (l.map V.int) (l.map PyData.int)
  | [] => .nil
  | x :: l => .cons (.int x) (dp_ints l)
theorem dp_pc {H : Hp} {p : Pc} (h : PcT H p) : Dp K H (.ref p.t) (pcD p) :=
  .tup (SqT.of h.1) (.cons (.int _) (.cons (.tup (SqT.of h.2.1) (.cons (.str _) (dp_ints _))) (.cons (.tup (SqT.of h.2.2.2.1) (dp_ints _)) (.cons (.tup (SqT.of h.2.2.2.2.2.1) (dp_ints _)) .nil))))
theorem dp_pcs {H : Hp} : ∀ {ps : List Pc}, (∀ p ∈ ps, PcT H p) → DpAll K H (pv' ps) (ps.map pcD)
  | [], _ => .nil
  | p :: ps, h => .cons (dp_pc (h p List.mem_cons_self)) (dp_pcs fun q hq => h q (List.mem_cons_of_mem _ hq))
theorem dp_bk {H : Hp} {b : Bk} (h : BkT H b) : Dp K H (.ref b.t) (bkD b) :=
  .tup (SqT.of h.1) (.cons (.int _) (.cons (.int _) (.cons (.int _) (.cons (.bl _) (.cons (.tup (SqT.of h.2.1) (dp_pcs h.2.2.2)) .nil)))))
theorem dp_bks {H : Hp} : ∀ {bs : List Bk}, BsT H bs → DpAll K H (bv bs) (bs.map bkD)
  | [], _ => .nil
  | b :: bs, h => .cons (dp_bk (h b List.mem_cons_self)) (dp_bks fun q hq => h q (List.mem_cons_of_mem _ hq))
end
/-! ### a Galley -/
abbrev L3 : Type := Addr × Addr × Addr
def fs3 (l : L3) : List (Str × V) := [("_blocks", .ref l.1), ("_pieces", .ref l.2.1), ("_owners", .ref l.2.2)]
def GalA (C : Addr) (H : Hp) (p : Addr) (l : L3) (bs : List Bk) : Prop := ∃ (dx : Addr) (os : List V), H p = some (.ins C dx (fs3 l)) ∧ H l.1 = some (.lst (bv bs)) ∧ H l.2.1 = some (.lst (pv' (pcs bs))) ∧ H l.2.2 = some (.lst os) ∧ OwnT H os (spans 0 0 bs) ∧ BsT H bs
theorem GalA.same {C : Addr} {H H' : Hp} {p : Addr} {l : L3} {bs : List Bk} (g : GalA C H p l bs) (s : Same H H') : GalA C H' p l bs :=
  let ⟨dx, os, h1, h2, h3, h4, h5, h6⟩ := g; ⟨dx, os, s _ _ h1, s _ _ h2, s _ _ h3, s _ _ h4, h5.kp (Kp.of s), h6.kp (Kp.of s)⟩
/-- .. when one list that is none of its own has changed -/
theorem GalA.but {C : Addr} {H H' : Hp} {p g : Addr} {l : L3} {bs : List Bk} {xs : List V} (f : GalA C H p l bs) (hg : H g = some (.lst xs)) (n1 : l.1 ≠ g) (n2 : l.2.1 ≠ g) (n3 : l.2.2 ≠ g) (s : ∀ b o, b ≠ g → H b = some o → H' b = some o) : GalA C H' p l bs := by
  obtain ⟨dx, os, h1, h2, h3, h4, h5, h6⟩ := f
  have kp : Kp H H' := Kp.but hg (fun z => z) s
  exact ⟨dx, os, s _ _ (ne_of h1 hg (fun z => nomatch z)) h1, s _ _ n1 h2, s _ _ n2 h3, s _ _ n3 h4, h5.kp kp, h6.kp kp⟩
/-- .. when another instance has changed -/
theorem GalA.oth {C C' : Addr} {H H' : Hp} {p g : Addr} {l : L3} {bs : List Bk} {dx : Addr} {fs : List (Str × V)} (f : GalA C H p l bs) (hg : H g = some (.ins C' dx fs)) (n : p ≠ g) (s : ∀ b o, b ≠ g → H b = some o → H' b = some o) : GalA C H' p l bs := by
  obtain ⟨dx', os, h1, h2, h3, h4, h5, h6⟩ := f
  have kp : Kp H H' := Kp.but hg (fun z => z) s
  exact ⟨dx', os, s _ _ n h1, s _ _ (ne_of h2 hg (fun z => nomatch z)) h2, s _ _ (ne_of h3 hg (fun z => nomatch z)) h3, s _ _ (ne_of h4 hg (fun z => nomatch z)) h4, h5.kp kp, h6.kp kp⟩
theorem GalA.ins {C : Addr} {H : Hp} {p : Addr} {l : L3} {bs : List Bk} (f : GalA C H p l bs) : ∃ dx, H p = some (.ins C dx (fs3 l)) := let ⟨dx, _, h, _⟩ := f; ⟨dx, h⟩
def Fresh (H : Hp) (l : L3) : Prop := H l.1 = none ∧ H l.2.1 = none ∧ H l.2.2 = none
theorem Fresh.ne {H : Hp} {l : L3} {g : Addr} {o : HO} (f : Fresh H l) (h : H g = some o) : l.1 ≠ g ∧ l.2.1 ≠ g ∧ l.2.2 ≠ g := ⟨(fun e => by rw [← e, f.1] at h; cases h), (fun e => by rw [← e, f.2.1] at h; cases h), (fun e => by rw [← e, f.2.2] at h; cases h)⟩
theorem Fresh.same {H H' : Hp} {l : L3} (f : Fresh H' l) (s : Same H H') : Fresh H l := ⟨s.free f.1, s.free f.2.1, s.free f.2.2⟩
structure Gly (K : PySem.W.Frag) (mg : Str → Option Value) (C : Addr) : Prop where
  cl : Cls K C
  n1 : NoAttr K C "_blocks"
  n2 : NoAttr K C "_pieces"
  n3 : NoAttr K C "_owners"
  mgC : mg "Galley" = some (.ref C)
  ha : PySem.W.findIn K (.ref C) "__class__" = some (some (.builtin "object.__class__"))
  hn : PySem.W.specialIn K (.builtin "object.__class__") "__get__" = some (some (.builtin "getset_descriptor.__get__"))
  ht : PySem.W.takesIn K (.builtin "object.__class__") = some true
  hm : PySem.W.mroIn K C (.type "object") = some true
  ks : PySem.W.kitOne K (.ref C) (.ref C) = some true
  kl : PySem.W.kitOne K (.type "list") (.ref C) = some false
theorem lk1 (l : L3) : (fs3 l).lookup ("_blocks" : Str) = some (.ref l.1) := rfl
theorem lk2 (l : L3) : (fs3 l).lookup ("_pieces" : Str) = some (.ref l.2.1) := rfl
theorem lk3 (l : L3) : (fs3 l).lookup ("_owners" : Str) = some (.ref l.2.2) := rfl
theorem pf1 (l : L3) (x : Addr) : putF ("_blocks" : Str) (.ref x) (fs3 l) = fs3 (x, l.2.1, l.2.2) := rfl
theorem pf2 (l : L3) (x : Addr) : putF ("_pieces" : Str) (.ref x) (fs3 l) = fs3 (l.1, x, l.2.2) := rfl
theorem pf3 (l : L3) (x : Addr) : putF ("_owners" : Str) (.ref x) (fs3 l) = fs3 (l.1, l.2.1, x) := rfl
theorem arg_same {K : PySem.W.Frag} {H H' : Hp} {a : Addr} {bs : List Bk} (h : Arg K H a bs) (s : Same H H') : Arg K H' a bs := by
  rcases h with h | ⟨e, (h | ⟨o, h⟩) | h⟩
  · exact .inl (s _ _ h)
  · exact .inr ⟨e, .inl (.inl (s _ _ h))⟩
  · exact .inr ⟨e, .inl (.inr ⟨o, s _ _ h⟩)⟩
  · exact .inr ⟨e, .inr h⟩
theorem arg_but {K : PySem.W.Frag} {H H' : Hp} {a p C dx : Addr} {fs : List (Str × V)} {bs : List Bk} (h : Arg K H a bs) (hp : H p = some (.ins C dx fs)) (s : ∀ b o, b ≠ p → H b = some o → H' b = some o) : Arg K H' a bs := by
  rcases h with h | ⟨e, (h | ⟨o, h⟩) | h⟩
  · exact .inl (s _ _ (ne_of h hp (fun z => nomatch z)) h)
  · exact .inr ⟨e, .inl (.inl (s _ _ (ne_of h hp (fun z => nomatch z)) h))⟩
  · exact .inr ⟨e, .inl (.inr ⟨o, s _ _ (ne_of h hp (fun z => nomatch z)) h⟩)⟩
  · exact .inr ⟨e, .inr h⟩
section
variable {P : Program} {w : World} {K : PySem.W.Frag} {mg : Str → Option Value} {base : Heap} {t1 t2 : Tok}
/-! ### Galley.__init__ -/
abbrev pIn : List Str := ["self", "blocks"]
theorem scInit : FnScope pIn pIn (defScope sInit) := ⟨rfl, rfl, rfl, by decide +kernel, rfl, by decide +kernel, by decide +kernel⟩
abbrev InitD (K : PySem.W.Frag) (d0 f : Addr) (fd : FuncData) : Prop := FunD K "__init__" "Galley.__init__" (defArgs sInit) (defBody sInit) (defScope sInit) [.ref d0] [] f fd
def spInit (K : PySem.W.Frag) (C CT : Addr) : Sp := fun vs H Q E => ∃ (p dx a : Addr) (bs : List Bk), vs = [.ref p, .ref a] ∧ H p = some (.ins C dx []) ∧ Arg K H a bs ∧ BsT H bs ∧ Small bs ∧
  (0 < dueN bs → ∀ H1 d, (∀ b o, b ≠ p → H b = some o → H1 b = some o) → H1 d = none → E (.ref CT) (some d) (upd H1 d (.xd [("many", .int ((dueN bs : Nat) : Int))]))) ∧
  (dueN bs = 0 → ∀ H' l, (∀ b o, b ≠ p → H b = some o → H' b = some o) → Fresh H l → GalA C H' p l bs → Q .non H')
theorem ok_ginit {C CT d0 f f_sizes f_pieces f_owners : Addr} {fd fd_sizes fd_pieces fd_owners : FuncData} (B : Blt mg) (T : Gly K mg C) (F : InitD K d0 f fd)
    (F_sizes : Fun K "_check_sizes" "_check_sizes" sSizes f_sizes fd_sizes) (b_sizes : Binds K fd_sizes ["blocks"] []) (g_sizes : mg "_check_sizes" = some (.ref f_sizes)) (G_sizes : FnOk P w K mg base (L2N.CX P w) 3 f_sizes fd_sizes ["blocks"] (spSizes K CT))
    (F_pieces : Fun K "_pieces_of" "_pieces_of" sPieces f_pieces fd_pieces) (b_pieces : Binds K fd_pieces ["blocks"] []) (g_pieces : mg "_pieces_of" = some (.ref f_pieces))
    (F_owners : Fun K "_owners_of" "_owners_of" sOwners f_owners fd_owners) (b_owners : Binds K fd_owners ["blocks"] []) (g_owners : mg "_owners_of" = some (.ref f_owners)) : FnOk P w K mg base (L2N.CX P w) 4 f fd pIn (spInit K C CT) := by
  have G_pieces : FnOk P w K mg base CX0 1 f_pieces fd_pieces ["blocks"] (spPieces K) := ok_pieces F_pieces
  have G_owners : FnOk P w K mg base CX0 1 f_owners fd_owners ["blocks"] (spOwners K) := ok_owners B F_owners
  refine F.ok scInit (fun vs H Q E h => ?_) (fun cdv A0 outer s H vs Q E hr h => ?_)
  · obtain ⟨p, dx, a, bs, rfl, _⟩ := h; rfl
  · obtain ⟨p, dx, a, bs, rfl, hp, ha, hb, hs, qe, q⟩ := h
    have hr1 : Room 1 _ := hr.mono (by decide)
    refine ⟨_, (pss_cons (ps_expr (pe_call G_sizes hr (by rfl) g_sizes F_sizes.kp b_sizes .nil (L2N.passes_call (L2N.takes_of rfl rfl rfl rfl) (fun _ _ _ _ h => h)) (pa_cons (pv 1) pa_nil)))
      (pss_cons (ps_fld (pv 0) (pe_callTy call_list_of (by rfl) B.list (by decide +kernel) (pa_cons (pv 1) pa_nil)) rfl)
      (pss_cons (ps_fld (pv 0) (pe_call G_pieces hr1 (by rfl) g_pieces F_pieces.kp b_pieces .nil pass0 (pa_cons (pv 1) pa_nil)) rfl)
      (pss_one (ps_fld (pv 0) (pe_call G_owners hr1 (by rfl) g_owners F_owners.kp b_owners .nil pass0 (pa_cons (pv 1) pa_nil)) rfl))))), ?_⟩
    refine ⟨.ref a, rfl, a, bs, rfl, ha, hb, hs, fun h0 H1 d s1 hd => qe h0 H1 d (fun b o _ e => s1 _ _ e) hd, fun h0 H1 s1 => ?_⟩
    have hb1 := hb.kp (Kp.of s1)
    have ha1 := arg_same ha s1
    have hsq : SqL K H1 a (bv bs) ∨ SqT K H1 a (bv bs) := by
      rcases ha1 with h | ⟨rfl, h⟩
      · exact .inl (SqL.of h)
      · exact .inr h
    refine ⟨.ref a, rfl, a, bv bs, rfl, hsq, fun lb nlb => ?_⟩
    have s2 := same_new nlb (o := .lst (bv bs))
    have hlb : (upd H1 lb (.lst (bv bs))) lb = some (.lst (bv bs)) := upd_same
    generalize upd H1 lb (.lst (bv bs)) = H2 at s2 hlb ⊢
    have hp2 := s2 _ _ (s1 _ _ hp)
    have s02 := s1.trans s2
    refine ⟨.ref p, rfl, p, C, dx, [], rfl, hp2, T.cl, T.n1, (by show 0 < 1000; decide), ?_⟩
    have k3 : ∀ b o, b ≠ p → H2 b = some o → (upd H2 p (.ins C dx (putF "_blocks" (.ref lb) []))) b = some o := upd_but
    have hp3 : (upd H2 p (.ins C dx (putF "_blocks" (.ref lb) []))) p = some (.ins C dx [("_blocks", .ref lb)]) := upd_same
    generalize upd H2 p (.ins C dx (putF "_blocks" (.ref lb) [])) = H3 at k3 hp3 ⊢
    have nlbp : lb ≠ p := ne_of hlb hp2 (fun z => nomatch z)
    have kp23 : Kp H2 H3 := Kp.but hp2 (fun z => z) k3
    have ha3 : Arg K H3 a bs := arg_but (arg_same ha s02) hp2 k3
    have hb3 := (hb.kp (Kp.of s02)).kp kp23
    refine ⟨.ref a, rfl, a, bs, rfl, ha3, hb3, hs, fun H4 lp s4 nlp hlp => ?_⟩
    have hp4 := s4 _ _ hp3
    refine ⟨.ref p, rfl, p, C, dx, _, rfl, hp4, T.cl, T.n2, (by show 1 < 1000; decide), ?_⟩
    have k5 : ∀ b o, b ≠ p → H4 b = some o → (upd H4 p (.ins C dx (putF "_pieces" (.ref lp) [("_blocks", .ref lb)]))) b = some o := upd_but
    have hp5 : (upd H4 p (.ins C dx (putF "_pieces" (.ref lp) [("_blocks", .ref lb)]))) p = some (.ins C dx [("_blocks", .ref lb), ("_pieces", .ref lp)]) := upd_same
    generalize upd H4 p (.ins C dx (putF "_pieces" (.ref lp) [("_blocks", .ref lb)])) = H5 at k5 hp5 ⊢
    have nlpp : lp ≠ p := ne_of hlp hp4 (fun z => nomatch z)
    have kp45 : Kp H4 H5 := Kp.but hp4 (fun z => z) k5
    have ha5 : Arg K H5 a bs := arg_but (arg_same ha3 s4) hp4 k5
    have hb5 := (hb3.kp (Kp.of s4)).kp kp45
    refine ⟨.ref a, rfl, a, bs, rfl, ha5, hb5, hs, fun H6 lo os s6 nlo hlo hO => ?_⟩
    have hp6 := s6 _ _ hp5
    refine ⟨.ref p, rfl, p, C, dx, _, rfl, hp6, T.cl, T.n3, (by show 2 < 1000; decide), ?_⟩
    have k7 : ∀ b o, b ≠ p → H6 b = some o → (upd H6 p (.ins C dx (putF "_owners" (.ref lo) [("_blocks", .ref lb), ("_pieces", .ref lp)]))) b = some o := upd_but
    have hp7 : (upd H6 p (.ins C dx (putF "_owners" (.ref lo) [("_blocks", .ref lb), ("_pieces", .ref lp)]))) p = some (.ins C dx (fs3 (lb, lp, lo))) := upd_same
    generalize upd H6 p (.ins C dx (putF "_owners" (.ref lo) [("_blocks", .ref lb), ("_pieces", .ref lp)])) = H7 at k7 hp7 ⊢
    have kp67 : Kp H6 H7 := Kp.but hp6 (fun z => z) k7
    have kall : ∀ b o, b ≠ p → H b = some o → H7 b = some o := fun b o hne e => k7 _ _ hne (s6 _ _ (k5 _ _ hne (s4 _ _ (k3 _ _ hne (s02 _ _ e)))))
    have back : ∀ x, H5 x = none → x ≠ p → H x = none := fun x hx hne => by
      cases e : H x with
      | none => rfl
      | some o => rw [k5 _ _ hne (s4 _ _ (k3 _ _ hne (s02 _ _ e)))] at hx; cases hx
    have back3 : ∀ x, H3 x = none → x ≠ p → H x = none := fun x hx hne => by
      cases e : H x with
      | none => rfl
      | some o => rw [k3 _ _ hne (s02 _ _ e)] at hx; cases hx
    have nlop : lo ≠ p := ne_of hlo hp6 (fun z => nomatch z)
    refine q h0 H7 (lb, lp, lo) kall ⟨s1.free nlb, back3 _ nlp nlpp, back _ nlo nlop⟩ ⟨dx, os, hp7, k7 _ _ nlbp (s6 _ _ (k5 _ _ nlbp (s4 _ _ (k3 _ _ nlbp hlb)))), k7 _ _ nlpp (s6 _ _ (k5 _ _ nlpp hlp)), k7 _ _ nlop hlo, hO.kp kp67, (hb5.kp (Kp.of s6)).kp kp67⟩
end
end K37

set_option maxRecDepth 100000
set_option maxHeartbeats 2000000
/-! C.m(), m a staticmethod of the class at C without parameters -/
namespace RS
open PySem PySem.Spec PyProof.Rows L2
/-- C.m is a staticmethod: its record at p, its def at g -/
structure CSta (K : PySem.W.Frag) (C : Addr) (mc : Value) (m : Str) (p g : Addr) : Prop where
  at_ : PySem.W.findCls K (.ref C) mc m = some (.get (.builtin "staticmethod.__get__") (.ref p) .none (.ref C))
  rc : ∃ rest, PySem.W.recIn K p "staticmethod" = some (.ref g :: rest)
def tSta (C : Addr) (sp : Sp) (dvs : List V) (E : XK) (ta : TE) : TE := fun σ H Q => ta σ H fun x H1 => x = .ref C ∧ sp dvs H1 Q E
section
variable {X : Cx} {CX : CXT} {k : Nat} {C p g : Addr} {fd : FuncData} {ps : List Str} {ds : List Value} {dvs : List V} {mc : Value} {sp : Sp} {E : XK} {o : Expr} {m : Str} {pos apos : Pos} {ta : TE} {pl : Sem Bool}
theorem pe_smeth0 (he : PE X o ta) (r : ClX.CRead X.K C mc) (c : CSta X.K C mc m p g) (F : FnOk X.prog X.w X.K X.mg X.base CX k g fd ps sp) (hr : Room k X.A) (hk : PySem.W.keepIn X.K (.ref g) = true) (hb : Binds X.K fd ps ds) (hd : Vals dvs ds) (hx : Passes CX X E)
    (ht : eval (.Call (.Attribute o m apos) [] [] pos) X.env = (do
      let ov ← eval o X.env
      standAt apos.atName
      let (f, first) ← holding [ov] (getMethod ov m pl)
      callWith pos f first (backTo pos (starEach [] X.env)) (backToKw pos (keywordEach [] X.env))) := by rfl) :
    PE X (.Call (.Attribute o m apos) [] [] pos) (tSta C sp dvs E ta) := by
  refine ⟨fun pins s σ H Q I h => ?_⟩
  refine PySem.W.methodCall_KW (pl := pl) (thn (he.run pins s σ H _ I h) fun u s1 ⟨x, H1, I1, rx, ex, q⟩ => ?_) ht
  subst ex
  obtain rfl : u = Value.ref C := rx
  obtain ⟨rest, hp⟩ := c.rc
  refine PySem.W.method_cls I1.kIn r.ga (PySem.W.cls_bind I1.kIn r.rd c.at_ (wpAny_call (PySem.W.sm_get (s := { s1 with toks := s1.toks + 1 }) I1.kIn hp (PySem.W.handed_on rfl ?_))))
  have I2 : Inv X pins σ H1 { s1 with toks := s1.toks + 1 } := I1.tok _
  exact PySem.W.callWith_K0 (first := []) I2.kIn hk (run_fn (us := []) (vs := []) F hr hb hd hx I2 .nil q)
end
end RS

set_option maxRecDepth 100000
set_option maxHeartbeats 8000000
namespace K37
open PySem PySem.Spec PyProof.Rows L2
theorem made_up {H : Hp} {x dx C : Addr} (nx : H x = none) (ndx : H dx = none) : Same H (upd (upd H dx (.own x)) x (.ins C dx [])) := fun b o hb => by
  rw [upd_ne (fun e => by subst e; rw [nx] at hb; cases hb), upd_ne (fun e => by subst e; rw [ndx] at hb; cases hb)]; exact hb
theorem made_same {H H' : Hp} {x dx C : Addr} (nx : H x = none) (ndx : H dx = none) (hk : ∀ b o, b ≠ x → (upd (upd H dx (.own x)) x (.ins C dx [])) b = some o → H' b = some o) : Same H H' := fun b o hb =>
  hk b o (fun e => by subst e; rw [nx] at hb; cases hb) (made_up nx ndx b o hb)
theorem passNN {X : Cx} : Passes (L2N.CX X.prog X.w) X E0 := fun _ _ _ _ _ _ _ h => by
  obtain ⟨_, _, _, _, _, _, _, _, _, _, _, _, z⟩ := h
  exact z.elim
theorem bv_app (a b : List Bk) : bv (a ++ b) = bv a ++ bv b := by unfold bv; rw [List.map_append]
theorem BsT.app {H : Hp} {a b : List Bk} (h1 : BsT H a) (h2 : BsT H b) : BsT H (a ++ b) := fun x hx => (List.mem_append.mp hx).elim (h1 x) (h2 x)
section
variable {P : Program} {w : World} {K : PySem.W.Frag} {mg : Str → Option Value} {base : Heap} {t1 t2 : Tok}
/-! ### len, iter -/
def spLen (C : Addr) : Sp := fun vs H Q _ => ∃ (p : Addr) (l : L3) (bs : List Bk), vs = [.ref p] ∧ GalA C H p l bs ∧ Q (.int (((pcs bs).length : Nat) : Int)) H
theorem scLen : FnScope ["self"] ["self"] (defScope sLen) := ⟨rfl, rfl, rfl, by decide +kernel, rfl, by decide +kernel, by decide +kernel⟩
theorem ok_len {C f : Addr} {fd : FuncData} (B : Blt mg) (T : Gly K mg C) (F : Fun K "__len__" "Galley.__len__" sLen f fd) : FnOk P w K mg base CX0 1 f fd ["self"] (spLen C) := by
  refine F.ok scLen (fun vs H Q E h => ?_) (fun cdv A0 outer s H vs Q E hr h => ?_)
  · obtain ⟨p, l, bs, rfl, _⟩ := h; rfl
  · obtain ⟨p, l, bs, rfl, ⟨dx, os, h1, h2, h3, h4, h5, h6⟩, q⟩ := h
    refine ⟨_, (pss_one (ps_ret (pe_callB call_len (by rfl) B.len PySem.boot_len (pa_cons (pe_fld (pv 0) rfl) pa_nil)))), ?_⟩
    exact ⟨.ref p, rfl, p, C, dx, fs3 l, _, rfl, h1, T.cl, T.n2, lk2 l, .ref l.2.1, (pcs bs).length, rfl, .inl ⟨_, SqL.of h3, (pv_len _).symm⟩, q⟩
theorem scIter : FnScope ["self"] ["self"] (defScope sIter) := ⟨rfl, rfl, rfl, by decide +kernel, rfl, by decide +kernel, by decide +kernel⟩
theorem ok_iter {C f : Addr} {fd : FuncData} (B : Blt mg) (T : Gly K mg C) (F : Fun K "__iter__" "Galley.__iter__" sIter f fd) : RO.FnN P w K mg base CX0 1 f fd ["self"] (RO.spIt C "_blocks") := by
  refine RO.fun_okN F scIter (fun n vs H Q E h => ?_) (fun cdv A0 outer s H vs Q E hr h => ?_)
  · obtain ⟨p, dx, l, fs, rfl, _⟩ := h; rfl
  · obtain ⟨p, dx, l, fs, rfl, hp, hf, ⟨zs, hl⟩, q⟩ := h
    refine ⟨_, (pss_one (ps_ret (pe_callB ItX.call_iterN (by rfl) B.iter (by decide +kernel) (pa_cons (pe_fld (pv 0) rfl) pa_nil)))), ?_⟩
    exact ⟨.ref p, rfl, p, C, dx, fs, _, rfl, hp, T.cl, T.n1, hf, l, zs, rfl, SqL.of hl, q⟩
/-! ### == -/
def spEq (C : Addr) : Sp := fun vs H Q _ => ∃ (p q : Addr) (l m : L3) (bs cs : List Bk), vs = [.ref p, .ref q] ∧ GalA C H p l bs ∧ GalA C H q m cs ∧ Q (.bl (PyData.eqv (bsD bs) (bsD cs))) H
abbrev pOt : List Str := ["self", "other"]
theorem scEq : FnScope pOt pOt (defScope sEq) := ⟨rfl, rfl, rfl, by decide +kernel, rfl, by decide +kernel, by decide +kernel⟩
theorem gal_isi {C : Addr} {H : Hp} {q : Addr} {m : L3} {cs : List Bk} (T : Gly K mg C) (h : GalA C H q m cs) : TyX K H (.ref q) (.ref C) := let ⟨dx, h⟩ := h.ins; .base (.ins h T.cl T.ha T.hn T.ht T.hm)
theorem ok_eq {C f : Addr} {fd : FuncData} (B : Blt mg) (T : Gly K mg C) (F : Fun K "__eq__" "Galley.__eq__" sEq f fd) : FnOk P w K mg base CX0 1 f fd pOt (spEq C) := by
  refine F.ok scEq (fun vs H Q E h => ?_) (fun cdv A0 outer s H vs Q E hr h => ?_)
  · obtain ⟨p, q, l, m, bs, cs, rfl, _⟩ := h; rfl
  · obtain ⟨p, r, l, m, bs, cs, rfl, g1, g2, q⟩ := h
    refine ⟨_, (pss_cons (ps_if (pt_not (pt_val (pe_callB call_isi (by rfl) B.isi (by decide +kernel) (pa_cons (pv 1) (pa_cons (pe_glob (v := .ref C) (by rfl) T.mgC rfl) pa_nil))))) (pss_one ps_never) pss_nil)
      (pss_one (ps_ret (pe_cmpR (op_eqD hr.units) (pe_fld (pv 0) rfl) (pe_fld (pv 1) rfl) (nomark _))))), ?_⟩
    refine ⟨.ref r, rfl, .ref r, .ref C, .ref C, .ref C, true, rfl, .own C, gal_isi T g2, T.ks, _, rfl, iteF ?_⟩
    obtain ⟨dx, os, h1, h2, _, _, _, h6⟩ := g1
    obtain ⟨dy, os', k1, k2, _, _, _, k6⟩ := g2
    refine ⟨.ref p, rfl, p, C, dx, fs3 l, .ref l.1, rfl, h1, T.cl, T.n1, lk1 l, .ref r, rfl, r, C, dy, fs3 m, .ref m.1, rfl, k1, T.cl, T.n1, lk1 m, bsD bs, bsD cs, .lst (SqL.of h2) (dp_bks h6), .lst (SqL.of k2) (dp_bks k6), bsD_sh h6, bsD_sh k6, ?_⟩
    exact q
def niR : List V → Hp → (Hp → Prop) → Prop := fun vs H Rh => ∃ (r l : Addr) (xs : List V), vs = [.ref r, .ref l] ∧ H l = some (.lst xs) ∧ Rh H
theorem ni_eq {C f : Addr} {fd : FuncData} (B : Blt mg) (T : Gly K mg C) (F : Fun K "__eq__" "Galley.__eq__" sEq f fd) (b : Binds K fd pOt []) : R7.NiOk P w K mg base 1 f niR := by
  obtain ⟨oc, od, kV, doc, pm, an, cdv, ct, osl, rfl, lk, hcd⟩ := F.ex
  refine R7.ni_of lk hcd scEq rfl b (fun vs H Rh h => ?_) B.NotImplemented (fun _ _ _ _ => by rfl) (fun A outer s H vs Rh hr h => ?_)
  · obtain ⟨r, l, xs, rfl, _⟩ := h; rfl
  · obtain ⟨r, l, xs, rfl, hl, q⟩ := h
    refine ⟨_, (pt_not (pt_val (pe_callB call_isi (by rfl) B.isi (by decide +kernel) (pa_cons (pv 1) (pa_cons (pe_glob (v := .ref C) (by rfl) T.mgC rfl) pa_nil))))), ?_⟩
    exact ⟨.ref l, rfl, .ref l, .ref C, .type "list", .ref C, false, rfl, .own C, .base (.lst hl), T.kl, _, rfl, rfl, q⟩
/-! ### + -/
def spAdd (K : PySem.W.Frag) (C CT : Addr) : Sp := fun vs H Q E => ∃ (p q : Addr) (l m : L3) (bs cs : List Bk), vs = [.ref p, .ref q] ∧ GalA C H p l bs ∧ GalA C H q m cs ∧ Small (bs ++ cs) ∧
  (0 < dueN (bs ++ cs) → ∀ H1 d, Same H H1 → H1 d = none → E (.ref CT) (some d) (upd H1 d (.xd [("many", .int ((dueN (bs ++ cs) : Nat) : Int))]))) ∧
  (dueN (bs ++ cs) = 0 → ∀ H' r l', Same H H' → H r = none → GalA C H' r l' (bs ++ cs) → Q (.ref r) H')
theorem scAdd : FnScope pOt pOt (defScope sAdd) := ⟨rfl, rfl, rfl, by decide +kernel, rfl, by decide +kernel, by decide +kernel⟩
theorem ok_add {C CT f_init f : Addr} {fd_init fd : FuncData} (B : Blt mg) (T : Gly K mg C) (M : Mk K C f_init) (F : Fun K "__add__" "Galley.__add__" sAdd f fd)
    (G_init : FnOk P w K mg base (L2N.CX P w) 4 f_init fd_init pIn (spInit K C CT)) (b_init : Binds K fd_init pIn []) : FnOk P w K mg base (L2N.CX P w) 6 f fd pOt (spAdd K C CT) := by
  refine RN.okXN F scAdd (fun vs H Q E h => ?_) (fun cdv A0 outer s H vs Q E hr h => ?_)
  · obtain ⟨p, q, l, m, bs, cs, rfl, _⟩ := h; rfl
  · obtain ⟨p, r, l, m, bs, cs, rfl, g1, g2, hs, qe, q⟩ := h
    refine ⟨_, (pss_cons (ps_if (pt_not (pt_val (pe_callB call_isi (by rfl) B.isi (by decide +kernel) (pa_cons (pv 1) (pa_cons (pe_glob (v := .ref C) (by rfl) T.mgC rfl) pa_nil))))) (pss_one ps_never) pss_nil)
      (pss_one (ps_ret (pe_make M G_init hr (by rfl) T.mgC b_init .nil (L2N.passes_call (L2N.takes_of rfl rfl rfl rfl) (fun _ _ _ _ h => h)) (pa_cons (pe_op op_cat (pe_fld (pv 0) rfl) (pe_fld (pv 1) rfl)) pa_nil))))), ?_⟩
    refine ⟨.ref r, rfl, .ref r, .ref C, .ref C, .ref C, true, rfl, .own C, gal_isi T g2, T.ks, _, rfl, iteF ?_⟩
    obtain ⟨dx, os, h1, h2, h3, h4, h5, h6⟩ := g1
    obtain ⟨dy, os', k1, k2, k3, k4, k5, k6⟩ := g2
    have e1 : (bv bs).length + (bv cs).length ≤ sizeLine := by
      have := hs.1
      rw [List.length_append] at this
      rw [bv_len, bv_len, sizeLine_eq]; omega
    refine ⟨.ref p, rfl, p, C, dx, fs3 l, .ref l.1, rfl, h1, T.cl, T.n1, lk1 l, .ref r, rfl, r, C, dy, fs3 m, .ref m.1, rfl, k1, T.cl, T.n1, lk1 m, l.1, m.1, bv bs, bv cs, rfl, rfl, h2, k2, e1, fun z nz => ?_⟩
    have s1 := same_new nz (o := .lst (bv bs ++ bv cs))
    have hz : (upd H z (.lst (bv bs ++ bv cs))) z = some (.lst (bv (bs ++ cs))) := by rw [upd_same, bv_app]
    generalize upd H z (.lst (bv bs ++ bv cs)) = H1 at s1 hz ⊢
    refine fun x dx' nx ndx hne => ?_
    have sM : Same H1 (upd (upd H1 dx' (.own x)) x (.ins C dx' [])) := made_up nx ndx
    have hb := (h6.app k6).kp (Kp.of s1)
    refine ⟨x, dx', z, bs ++ cs, rfl, upd_same, .inl (sM _ _ hz), hb.kp (Kp.of sM), hs, fun h0 H3 d hk hd => qe h0 H3 d (s1.trans (made_same nx ndx hk)) hd, fun h0 H3 l' hk hF g => ⟨rfl, q h0 H3 x l' (s1.trans (made_same nx ndx hk)) (s1.free nx) g⟩⟩
/-! ### += -/
def spIadd (K : PySem.W.Frag) (C CT : Addr) : Sp := fun vs H Q E => ∃ (p q : Addr) (l m : L3) (bs cs : List Bk), vs = [.ref p, .ref q] ∧ GalA C H p l bs ∧ GalA C H q m cs ∧ Small (bs ++ cs) ∧
  (0 < dueN (bs ++ cs) → ∀ H1 d, Same H H1 → H1 d = none → E (.ref CT) (some d) (upd H1 d (.xd [("many", .int ((dueN (bs ++ cs) : Nat) : Int))]))) ∧
  (dueN (bs ++ cs) = 0 → ∀ H' l', (∀ b o, b ≠ p → H b = some o → H' b = some o) → GalA C H' p l' (bs ++ cs) → Q (.ref p) H')
abbrev nIa : List Str := ["self", "other", "blocks"]
theorem scIadd : FnScope nIa pOt (defScope sIadd) := ⟨rfl, rfl, rfl, by decide +kernel, rfl, by decide +kernel, by decide +kernel⟩
theorem ok_iadd {C CT f f_sizes f_pieces f_owners : Addr} {fd fd_sizes fd_pieces fd_owners : FuncData} (B : Blt mg) (T : Gly K mg C) (F : Fun K "__iadd__" "Galley.__iadd__" sIadd f fd)
    (F_sizes : Fun K "_check_sizes" "_check_sizes" sSizes f_sizes fd_sizes) (b_sizes : Binds K fd_sizes ["blocks"] []) (g_sizes : mg "_check_sizes" = some (.ref f_sizes)) (G_sizes : FnOk P w K mg base (L2N.CX P w) 3 f_sizes fd_sizes ["blocks"] (spSizes K CT))
    (F_pieces : Fun K "_pieces_of" "_pieces_of" sPieces f_pieces fd_pieces) (b_pieces : Binds K fd_pieces ["blocks"] []) (g_pieces : mg "_pieces_of" = some (.ref f_pieces))
    (F_owners : Fun K "_owners_of" "_owners_of" sOwners f_owners fd_owners) (b_owners : Binds K fd_owners ["blocks"] []) (g_owners : mg "_owners_of" = some (.ref f_owners)) : FnOk P w K mg base (L2N.CX P w) 6 f fd pOt (spIadd K C CT) := by
  have G_pieces : FnOk P w K mg base CX0 1 f_pieces fd_pieces ["blocks"] (spPieces K) := ok_pieces F_pieces
  have G_owners : FnOk P w K mg base CX0 1 f_owners fd_owners ["blocks"] (spOwners K) := ok_owners B F_owners
  refine RN.okXN F scIadd (fun vs H Q E h => ?_) (fun cdv A0 outer s H vs Q E hr h => ?_)
  · obtain ⟨p, q, l, m, bs, cs, rfl, _⟩ := h; rfl
  · obtain ⟨p, r, l, m, bs, cs, rfl, g1, g2, hs, qe, q⟩ := h
    have hr1 : Room 1 _ := hr.mono (by decide)
    have hr3 : Room 3 _ := hr.mono (by decide)
    refine ⟨_, (pss_cons (ps_if (pt_not (pt_val (pe_callB call_isi (by rfl) B.isi (by decide +kernel) (pa_cons (pv 1) (pa_cons (pe_glob (v := .ref C) (by rfl) T.mgC rfl) pa_nil))))) (pss_one ps_never) pss_nil)
      (pss_cons (ps_set (i := 2) scIadd.nd rfl (.inl rfl) (pe_op op_cat (pe_fld (pv 0) rfl) (pe_fld (pv 1) rfl)))
      (pss_cons (ps_expr (pe_call G_sizes hr3 (by rfl) g_sizes F_sizes.kp b_sizes .nil (L2N.passes_call (L2N.takes_of rfl rfl rfl rfl) (fun _ _ _ _ h => h)) (pa_cons (pv 2) pa_nil)))
      (pss_cons (ps_fld (pv 0) (pv 2) rfl)
      (pss_cons (ps_fld (pv 0) (pe_call G_pieces hr1 (by rfl) g_pieces F_pieces.kp b_pieces .nil pass0 (pa_cons (pv 2) pa_nil)) rfl)
      (pss_cons (ps_fld (pv 0) (pe_call G_owners hr1 (by rfl) g_owners F_owners.kp b_owners .nil pass0 (pa_cons (pv 2) pa_nil)) rfl)
      (pss_one (ps_ret (pv 0))))))))), ?_⟩
    refine ⟨.ref r, rfl, .ref r, .ref C, .ref C, .ref C, true, rfl, .own C, gal_isi T g2, T.ks, _, rfl, iteF ?_⟩
    obtain ⟨dx, os, h1, h2, h3, h4, h5, h6⟩ := g1
    obtain ⟨dy, os', k1, k2, k3, k4, k5, k6⟩ := g2
    have e1 : (bv bs).length + (bv cs).length ≤ sizeLine := by
      have := hs.1
      rw [List.length_append] at this
      rw [bv_len, bv_len, sizeLine_eq]; omega
    refine ⟨.ref p, rfl, p, C, dx, fs3 l, .ref l.1, rfl, h1, T.cl, T.n1, lk1 l, .ref r, rfl, r, C, dy, fs3 m, .ref m.1, rfl, k1, T.cl, T.n1, lk1 m, l.1, m.1, bv bs, bv cs, rfl, rfl, h2, k2, e1, fun z nz => ?_⟩
    have s1 := same_new nz (o := .lst (bv bs ++ bv cs))
    have hz : (upd H z (.lst (bv bs ++ bv cs))) z = some (.lst (bv (bs ++ cs))) := by rw [upd_same, bv_app]
    generalize upd H z (.lst (bv bs ++ bv cs)) = H1 at s1 hz ⊢
    have hb1 := (h6.app k6).kp (Kp.of s1)
    refine ⟨.ref z, rfl, z, bs ++ cs, rfl, .inl hz, hb1, hs, fun h0 H2 d s2 hd => qe h0 H2 d (s1.trans s2) hd, fun h0 H2 s2 => ?_⟩
    have s02 := s1.trans s2
    have hp2 := s02 _ _ h1
    have hz2 := s2 _ _ hz
    refine ⟨.ref z, rfl, .ref p, rfl, p, C, dx, fs3 l, rfl, hp2, T.cl, T.n1, (by show 3 < 1000; decide), ?_⟩
    rw [pf1]
    have k3' : ∀ b o, b ≠ p → H2 b = some o → (upd H2 p (.ins C dx (fs3 (z, l.2.1, l.2.2)))) b = some o := upd_but
    have hp3 : (upd H2 p (.ins C dx (fs3 (z, l.2.1, l.2.2)))) p = some (.ins C dx (fs3 (z, l.2.1, l.2.2))) := upd_same
    generalize upd H2 p (.ins C dx (fs3 (z, l.2.1, l.2.2))) = H3 at k3' hp3 ⊢
    have nzp : z ≠ p := ne_of hz2 hp2 (fun z => nomatch z)
    have hz3 := k3' _ _ nzp hz2
    have hb3 := (hb1.kp (Kp.of s2)).kp (Kp.but hp2 (fun z => z) k3')
    refine ⟨.ref z, rfl, z, bs ++ cs, rfl, .inl hz3, hb3, hs, fun H4 lp s4 nlp hlp => ?_⟩
    have hp4 := s4 _ _ hp3
    refine ⟨.ref p, rfl, p, C, dx, _, rfl, hp4, T.cl, T.n2, (by show 3 < 1000; decide), ?_⟩
    rw [pf2]
    have k5' : ∀ b o, b ≠ p → H4 b = some o → (upd H4 p (.ins C dx (fs3 (z, lp, l.2.2)))) b = some o := upd_but
    have hp5 : (upd H4 p (.ins C dx (fs3 (z, lp, l.2.2)))) p = some (.ins C dx (fs3 (z, lp, l.2.2))) := upd_same
    generalize upd H4 p (.ins C dx (fs3 (z, lp, l.2.2))) = H5 at k5' hp5 ⊢
    have nlpp : lp ≠ p := ne_of hlp hp4 (fun z => nomatch z)
    have hz5 := k5' _ _ nzp (s4 _ _ hz3)
    have hb5 := (hb3.kp (Kp.of s4)).kp (Kp.but hp4 (fun z => z) k5')
    refine ⟨.ref z, rfl, z, bs ++ cs, rfl, .inl hz5, hb5, hs, fun H6 lo os6 s6 nlo hlo hO => ?_⟩
    have hp6 := s6 _ _ hp5
    refine ⟨.ref p, rfl, p, C, dx, _, rfl, hp6, T.cl, T.n3, (by show 3 < 1000; decide), ?_⟩
    rw [pf3]
    have k7' : ∀ b o, b ≠ p → H6 b = some o → (upd H6 p (.ins C dx (fs3 (z, lp, lo)))) b = some o := upd_but
    have hp7 : (upd H6 p (.ins C dx (fs3 (z, lp, lo)))) p = some (.ins C dx (fs3 (z, lp, lo))) := upd_same
    generalize upd H6 p (.ins C dx (fs3 (z, lp, lo))) = H7 at k7' hp7 ⊢
    have nlop : lo ≠ p := ne_of hlo hp6 (fun z => nomatch z)
    have kp67 : Kp H6 H7 := Kp.but hp6 (fun z => z) k7'
    refine ⟨.ref p, rfl, q h0 H7 (z, lp, lo) (fun b o hne e => k7' _ _ hne (s6 _ _ (k5' _ _ hne (s4 _ _ (k3' _ _ hne (s02 _ _ e)))))) ⟨dx, os6, hp7, k7' _ _ nzp (s6 _ _ hz5), k7' _ _ nlpp (s6 _ _ (k5' _ _ nlpp hlp)), k7' _ _ nlop hlo, hO.kp kp67, (hb5.kp (Kp.of s6)).kp kp67⟩⟩
/-! ### pieces, figures -/
def spPcs (C : Addr) : Sp := fun vs H Q _ => ∃ (p : Addr) (l : L3) (bs : List Bk), vs = [.ref p] ∧ GalA C H p l bs ∧ ∀ r, H r = none → Q (.ref r) (upd H r (.lst (pv' (pcs bs))))
theorem scPcs : FnScope ["self"] ["self"] (defScope sPcs) := ⟨rfl, rfl, rfl, by decide +kernel, rfl, by decide +kernel, by decide +kernel⟩
theorem ok_pcs {C f : Addr} {fd : FuncData} (B : Blt mg) (T : Gly K mg C) (F : Fun K "pieces" "Galley.pieces" sPcs f fd) : FnOk P w K mg base CX0 1 f fd ["self"] (spPcs C) := by
  refine F.ok scPcs (fun vs H Q E h => ?_) (fun cdv A0 outer s H vs Q E hr h => ?_)
  · obtain ⟨p, l, bs, rfl, _⟩ := h; rfl
  · obtain ⟨p, l, bs, rfl, ⟨dx, os, h1, h2, h3, h4, h5, h6⟩, q⟩ := h
    refine ⟨_, (pss_one (ps_ret (pe_callTy call_list_of (by rfl) B.list (by decide +kernel) (pa_cons (pe_fld (pv 0) rfl) pa_nil)))), ?_⟩
    exact ⟨.ref p, rfl, p, C, dx, fs3 l, _, rfl, h1, T.cl, T.n2, lk2 l, l.2.1, _, rfl, .inl (SqL.of h3), fun r nr => q r nr⟩
def spFgs (C : Addr) : Sp := fun vs H Q _ => ∃ (p : Addr) (l : L3) (bs : List Bk), vs = [.ref p] ∧ GalA C H p l bs ∧ (pcs bs).length ≤ 200 ∧ ∀ H' r, Same H H' → H r = none → H' r = some (.lst ((figs (pcs bs)).map V.int)) → Q (.ref r) H'
theorem scFgs : FnScope ["self"] ["self"] (defScope sFigs) := ⟨rfl, rfl, rfl, by decide +kernel, rfl, by decide +kernel, by decide +kernel⟩
theorem ok_fgs {C f f_figures : Addr} {fd fd_figures : FuncData} (B : Blt mg) (T : Gly K mg C) (F : Fun K "figures" "Galley.figures" sFigs f fd)
    (F_figures : Fun K "_figures_of" "_figures_of" sFigures f_figures fd_figures) (b_figures : Binds K fd_figures ["pieces"] []) (g_figures : mg "_figures_of" = some (.ref f_figures)) : FnOk P w K mg base CX0 2 f fd ["self"] (spFgs C) := by
  have G_figures : FnOk P w K mg base CX0 1 f_figures fd_figures ["pieces"] (spFigures K) := ok_figures F_figures
  refine F.ok scFgs (fun vs H Q E h => ?_) (fun cdv A0 outer s H vs Q E hr h => ?_)
  · obtain ⟨p, l, bs, rfl, _⟩ := h; rfl
  · obtain ⟨p, l, bs, rfl, ⟨dx, os, h1, h2, h3, h4, h5, h6⟩, hs, q⟩ := h
    refine ⟨_, (pss_one (ps_ret (pe_call G_figures hr (by rfl) g_figures F_figures.kp b_figures .nil pass0 (pa_cons (pe_fld (pv 0) rfl) pa_nil)))), ?_⟩
    exact ⟨.ref p, rfl, p, C, dx, fs3 l, _, rfl, h1, T.cl, T.n2, lk2 l, l.2.1, pcs bs, rfl, h3, h6.pcs, hs, q⟩
/-! ### block_at -/
def spBlock (C CN : Addr) : Sp := fun vs H Q E => ∃ (p : Addr) (l : L3) (bs : List Bk) (at_ : Int), vs = [.ref p, .int at_] ∧ GalA C H p l bs ∧
  (¬ (0 ≤ at_ ∧ at_ < (((pcs bs).length : Nat) : Int)) → ∀ d, H d = none → E (.ref CN) (some d) (upd H d (.xd [("number", .int at_)]))) ∧
  (∀ j : Nat, at_ = (j : Int) → ∀ k s e t, (spans 0 0 bs)[j]? = some (k, s, e) → H t = some (.tup [.int ((k : Nat) : Int), .int ((s : Nat) : Int), .int ((e : Nat) : Int)]) → Q (.ref t) H)
abbrev pBl : List Str := ["self", "piece"]
theorem scBlock : FnScope pBl pBl (defScope sBlock) := ⟨rfl, rfl, rfl, by decide +kernel, rfl, by decide +kernel, by decide +kernel⟩
theorem ok_block {C CN fN f : Addr} {fdN fd : FuncData} (B : Blt mg) (T : Gly K mg C) (NT : NnE K mg CN fN fdN) (F : Fun K "block_at" "Galley.block_at" sBlock f fd) : FnOk P w K mg base (L2N.CX P w) 3 f fd pBl (spBlock C CN) := by
  have GT : FnOk P w K mg base CX0 1 fN fdN ["self", "number"] (spEI K CN "number") := ok_NnI NT.F
  refine RN.okXN F scBlock (fun vs H Q E h => ?_) (fun cdv A0 outer s H vs Q E hr h => ?_)
  · obtain ⟨p, l, bs, at_, rfl, _⟩ := h; rfl
  · obtain ⟨p, l, bs, at_, rfl, g, qe, q⟩ := h
    have hr2 : Room 2 _ := hr
    obtain ⟨dx, os, h1, h2, h3, h4, h5, h6⟩ := g
    have hol : os.length = (pcs bs).length := by rw [h5.1, spans_len]
    refine ⟨_, (pss_cons (ps_if (pt_not (pt_chain op_le op_lt pe_int (pv 1) (pe_callB call_len (by rfl) B.len PySem.boot_len (pa_cons (pe_fld (pv 0) rfl) pa_nil))))
       (pss_one (L2N.ps_raise rfl (L2N.takes_of rfl rfl rfl rfl) (RN.pmk_oexN NT.oex NT.iC NT.tI GT hr2 NT.b .nil pass0 (by rfl) NT.gC (pa_cons (pv 1) pa_nil)))) pss_nil)
      (pss_one (ps_ret (pe_ix ix_list (pe_fld (pv 0) rfl) (pv 1) (fun _ _ => rfl))))), ?_⟩
    refine ⟨.int at_, rfl, _, _, rfl, rfl, _, rfl, ?_⟩
    have bad : ¬ (0 ≤ at_ ∧ at_ < (((pcs bs).length : Nat) : Int)) → _ := fun z => raise_err (v := .int at_) NT.oex NT.fp fun d hd => qe z d hd
    refine ite2 (fun a1 => ?_) (fun a1 => ?_)
    · have b1 := of_decide_eq_true a1
      refine ⟨.ref p, rfl, p, C, dx, fs3 l, _, rfl, h1, T.cl, T.n3, lk3 l, .ref l.2.2, os.length, rfl, .inl ⟨_, SqL.of h4, rfl⟩, _, _, rfl, rfl, _, rfl, ?_⟩
      refine ite2 (fun a2 => ?_) (fun a2 => ?_)
      · refine ⟨.int at_, rfl, bad fun z => ?_⟩
        have b2 : at_ < ((os.length : Nat) : Int) := by omega
        rw [decide_eq_true b2] at a2; cases a2
      · have b2 : at_ < ((os.length : Nat) : Int) := by
          refine Decidable.byContradiction fun z => a2 ?_
          rw [decide_eq_false z]; rfl
        obtain ⟨j, rfl⟩ := Int.eq_ofNat_of_zero_le b1
        have hj : j < (spans 0 0 bs).length := by rw [spans_len]; omega
        obtain ⟨t, e1, e2⟩ := h5.2 j _ _ _ (List.getElem?_eq_getElem hj)
        refine ⟨.ref p, rfl, p, C, dx, fs3 l, _, rfl, h1, T.cl, T.n3, lk3 l, .int (j : Int), rfl, l.2.2, os, (j : Int), _, rfl, rfl, SqL.of h4, atI_nat e1, q j rfl _ _ _ t (List.getElem?_eq_getElem hj) e2⟩
    · refine ⟨_, rfl, iteT ⟨.int at_, rfl, bad fun z => a1 (decide_eq_true z.1)⟩⟩
end
end K37

set_option maxRecDepth 100000
set_option maxHeartbeats 8000000
namespace K37
open PySem PySem.Spec PyProof.Rows L2
/-! ### tuples of the heap cut and joined -/
def rSlH : V → Option Int → Option Int → Hp → VK → Prop := fun x lo hi H Q => ∃ a xs, x = .ref a ∧ H a = some (.tup xs) ∧ ∀ H' p, Same H H' → H' p = some (.tup (cutV xs lo hi)) → Q (.ref p) H'
theorem sl_tupH {X : Cx} : SlR X rSlH := by
  intro pins s σ H x v vl vu lo hi sl Q I rx hs pl pu h
  obtain ⟨a, xs, rfl, hx, q⟩ := h
  refine sl_tupA pins s σ H _ v vl vu lo hi sl Q I rx hs pl pu ⟨a, xs, rfl, SqT.of hx, fun hw => q H a (Same.refl H) ?_, fun _ p np => q _ p (same_new np) upd_same⟩
  have e : cutV xs lo hi = xs := by
    unfold cutV
    rw [hw.1, hw.2, List.drop_zero, Nat.sub_zero, List.take_length]
  rw [e]; exact hx
theorem cutV_to (xs : List V) {m : Nat} (h : m ≤ xs.length) : cutV xs none (some (m : Int)) = xs.take m := by
  unfold cutV
  rw [HT.sIx_none, HT.sIx_nat, Nat.min_eq_left h]
  show (xs.drop 0).take (m - 0) = _
  rw [List.drop_zero, Nat.sub_zero]
theorem cutV_mid (xs : List V) {a b : Nat} (ha : a ≤ xs.length) (h : b ≤ xs.length) : cutV xs (some (a : Int)) (some (b : Int)) = (xs.drop a).take (b - a) := by
  unfold cutV
  rw [HT.sIx_nat, HT.sIx_nat, Nat.min_eq_left h, Nat.min_eq_left ha]
theorem tab6 {xs : List Int} (hl : xs.length = 6) (hx : ∀ x ∈ xs, 0 ≤ x ∧ x ≤ 4) {d : Int} (hd : 0 ≤ d) : ∃ k : Nat, k ≤ 4 ∧ atI (xs.map V.int) (if 5 < d then 5 else d) = some (.int (k : Int)) := by
  obtain ⟨m, hm, e⟩ : ∃ m : Nat, m < 6 ∧ (if 5 < d then 5 else d) = (m : Int) := by
    by_cases h : 5 < d
    · exact ⟨5, by omega, by rw [if_pos h]; rfl⟩
    · exact ⟨d.toNat, by omega, by rw [if_neg h]; omega⟩
  obtain ⟨x, hg⟩ : ∃ x, xs[m]? = some x := ⟨_, List.getElem?_eq_getElem (by omega)⟩
  obtain ⟨h1, h2⟩ := hx x (List.mem_of_getElem? hg)
  refine ⟨x.toNat, by omega, ?_⟩
  rw [e]
  refine atI_nat ?_
  rw [List.getElem?_map, hg]
  show some (V.int x) = some (V.int _)
  rw [show ((x.toNat : Nat) : Int) = x from by omega]
/-- what a drawn piece is, the last of its block or not -/
def PieceOk (la : Bool) (m : Int) (p : Pc) : Prop := (1 ≤ p.h ∧ p.h ≤ m ∧ (∀ n ∈ p.notes, 0 ≤ n) ∧ ∀ c ∈ p.calls, 0 ≤ c) ∧ (la = true → p.tw = Str.ofString "end" ∧ p.tn = none) ∧ (la = false → (p.tw = Str.ofString "blank" ∨ p.tw = Str.ofString "joint") ∧ ∃ n, p.tn = some n ∧ 0 ≤ n ∧ n ≤ m)
section
variable {P : Program} {w : World} {K : PySem.W.Frag} {mg : Str → Option Value} {base : Heap} {t1 t2 : Tok}
/-! ### _law_made_piece -/
def spMade : Sp := fun vs H Q _ => ∃ (r : Addr) (rs : List Int) (la : Bool) (le tall m : Int), vs = [.ref r, .bl la, .int le, .int tall] ∧ H r = some (.lst (rs.map V.int)) ∧ rs.length = 7 ∧ (∀ x ∈ rs, 0 ≤ x) ∧ 0 ≤ le ∧ rs.getD 0 0 + 1 ≤ m ∧ rs.getD 2 0 ≤ m ∧ rs.getD 4 0 ≤ tall ∧ rs.getD 6 0 ≤ tall ∧ 0 ≤ tall ∧
  ∀ H' (p : Pc), Same H H' → PcT H' p → (p.calls.length : Int) ≤ le → PieceOk la m p → Q (.ref p.t) H'
abbrev pMp : List Str := ["_law_row_here", "_law_last", "_law_left", "_law_tall"]
abbrev nMp : List Str := ["_law_row_here", "_law_last", "_law_left", "_law_tall", "_law_tie", "_law_notes", "_law_calls"]
theorem scMade : FnScope nMp pMp (defScope sPiece) := ⟨rfl, rfl, rfl, by decide +kernel, rfl, by decide +kernel, by decide +kernel⟩
theorem ok_made_piece {f : Addr} {fd : FuncData} (B : Blt mg) (F : Fun K "_law_made_piece" "_law_made_piece" sPiece f fd) : FnOk P w K mg base CX0 1 f fd pMp spMade := by
  refine F.ok scMade (fun vs H Q E h => ?_) (fun cdv A0 outer s H vs Q E hr h => ?_)
  · obtain ⟨r, rs, la, le, tall, m, rfl, _⟩ := h; rfl
  · obtain ⟨r, rs, la, le, tall, m, rfl, hR, hl, hnn, hle, m0, m2, m4, m6, mt, q⟩ := h
    refine ⟨_, (pss_cons (ps_set (i := 4) scMade.nd rfl (.inl rfl) (pe_tup (pa_cons pe_str (pa_cons (pe_ix ix_list (pv 0) pe_int (fun _ _ => rfl)) pa_nil))))
      (Evl.pss_cut (ps_if (pt_val (pv 1))
      (pss_one (ps_set (i := 4) scMade.nd rfl (.inl rfl) (pe_tup (pa_cons pe_str pa_nil))))
      (pss_one (ps_if (pt_cmpR op_eq (pe_ix ix_list (pv 0) pe_int (fun _ _ => rfl)) pe_int (nomark _))
       (pss_one (ps_set (i := 4) scMade.nd rfl (.inl rfl) (pe_tup (pa_cons pe_str (pa_cons (pe_ix ix_list (pv 0) pe_int (fun _ _ => rfl)) pa_nil)))))
       pss_nil)))
      (pss_cons (ps_set (i := 5) scMade.nd rfl (.inl rfl) (pe_slice sl_tupH (pe_tup (pa_cons (pe_op op_add (pe_ix ix_list (pv 0) pe_int (fun _ _ => rfl)) pe_int) (pa_cons (pe_op op_sub (pv 3) (pe_ix ix_list (pv 0) pe_int (fun _ _ => rfl))) (pa_cons pe_int (pa_cons (pv 3) pa_nil))))) po_none (po_some (pe_ix ix_list (pe_lst (pa_cons pe_int (pa_cons pe_int (pa_cons pe_int (pa_cons pe_int (pa_cons pe_int (pa_cons pe_int pa_nil))))))) (pe_callB (call_min2 rfl) (by rfl) B.min (by decide +kernel) (pa_cons (pe_ix ix_list (pv 0) pe_int (fun _ _ => rfl)) (pa_cons pe_int pa_nil))) (fun _ _ => rfl)))))
      (pss_cons (ps_set (i := 6) scMade.nd rfl (.inl rfl) (pe_slice sl_tupH (pe_tup (pa_cons (pe_op op_add (pe_ix ix_list (pv 0) pe_int (fun _ _ => rfl)) pe_int) (pa_cons (pe_op op_sub (pv 3) (pe_ix ix_list (pv 0) pe_int (fun _ _ => rfl))) (pa_cons pe_int (pa_cons (pv 3) pa_nil))))) po_none (po_some (pe_callB (call_min2 rfl) (by rfl) B.min (by decide +kernel) (pa_cons (pv 2) (pa_cons (pe_ix ix_list (pe_lst (pa_cons pe_int (pa_cons pe_int (pa_cons pe_int (pa_cons pe_int (pa_cons pe_int (pa_cons pe_int pa_nil))))))) (pe_callB (call_min2 rfl) (by rfl) B.min (by decide +kernel) (pa_cons (pe_ix ix_list (pv 0) pe_int (fun _ _ => rfl)) (pa_cons pe_int pa_nil))) (fun _ _ => rfl)) pa_nil))))))
      (pss_one (ps_ret (pe_tup (pa_cons (pe_op op_add (pe_ix ix_list (pv 0) pe_int (fun _ _ => rfl)) pe_int) (pa_cons (pv 4) (pa_cons (pv 5) (pa_cons (pv 6) pa_nil))))))))))), ?_⟩
    match rs, hl with
    | [a, b, c, d, e, f', g], _ =>
    have nd : 0 ≤ d := hnn _ (by simp)
    have nf : 0 ≤ f' := hnn _ (by simp)
    have na : 0 ≤ a := hnn _ (by simp)
    have nc : 0 ≤ c := hnn _ (by simp)
    have m0 : a + 1 ≤ m := m0
    have m2 : c ≤ m := m2
    have m4 : e ≤ tall := m4
    have m6 : g ≤ tall := m6
    have ne : 0 ≤ e := hnn _ (by simp)
    have ng : 0 ≤ g := hnn _ (by simp)
    have nn4 : ∀ x ∈ [e + 1, tall - e, 1, tall], 0 ≤ x := fun x hx => by
      simp only [List.mem_cons, List.not_mem_nil, or_false] at hx; omega
    have nn6 : ∀ x ∈ [g + 1, tall - g, 1, tall], 0 ≤ x := fun x hx => by
      simp only [List.mem_cons, List.not_mem_nil, or_false] at hx; omega
    refine ⟨.ref r, rfl, r, _, 2, _, rfl, rfl, SqL.of hR, rfl, by show 2 ≤ sizeLine; decide, fun t0 n0 => ?_⟩
    have s0 := same_new n0 (o := .tup [.str (Str.ofString "blank"), .int c])
    have ht0 : (upd H t0 (.tup [.str (Str.ofString "blank"), .int c])) t0 = some (.tup [.str (Str.ofString "blank"), .int c]) := upd_same
    generalize upd H t0 (.tup [.str (Str.ofString "blank"), .int c]) = H0 at s0 ht0 ⊢
    have hR0 := s0 _ _ hR
    refine ⟨fun σ' H' => ∃ (ti : Addr) (tw : Str) (tn : Option Int), σ' = [some (.ref r), some (.bl la), some (.int le), some (.int tall), some (.ref ti), none, none] ∧ Same H H' ∧ H' ti = some (.tup (.str tw :: tn.toList.map V.int)) ∧ tw ∈ words ∧ (la = true → tw = Str.ofString "end" ∧ tn = none) ∧ (la = false → (tw = Str.ofString "blank" ∨ tw = Str.ofString "joint") ∧ tn = some c), ?_, ?_⟩
    · refine ⟨.bl la, rfl, la, rfl, ite2 (fun hla => ?_) (fun hla => ?_)⟩
      · refine ⟨by show 1 ≤ sizeLine; decide, fun t nt => ⟨t, Str.ofString "end", none, rfl, s0.trans (same_new nt), upd_same, by decide +kernel, fun _ => ⟨rfl, rfl⟩, fun e => by rw [hla] at e; cases e⟩⟩
      · refine ⟨.ref r, rfl, r, _, 1, _, rfl, rfl, SqL.of hR0, rfl, rfl, _, rfl, ite2 (fun _ => ?_) (fun _ => ?_)⟩
        · refine ⟨.ref r, rfl, r, _, 2, _, rfl, rfl, SqL.of hR0, rfl, by show 2 ≤ sizeLine; decide, fun t nt => ⟨t, Str.ofString "joint", some c, rfl, s0.trans (same_new nt), upd_same, by decide +kernel, fun e => absurd e hla, fun _ => ⟨.inr rfl, rfl⟩⟩⟩
        · exact ⟨t0, Str.ofString "blank", some c, rfl, s0, ht0, by decide +kernel, fun e => absurd e hla, fun _ => ⟨.inl rfl, rfl⟩⟩
    rintro σ' H1 ⟨ti, tw, tn, rfl, s1, hti, htw, te, tj⟩
    have hR1 := s1 _ _ hR
    obtain ⟨k1, hk1, ek1⟩ := tab6 (xs := [2, 1, 3, 4, 1, 0]) rfl (by decide) nd
    obtain ⟨k2, hk2, ek2⟩ := tab6 (xs := [1, 2, 4, 3, 1, 0]) rfl (by decide) nf
    refine ⟨.ref r, rfl, r, _, 4, _, rfl, rfl, SqL.of hR1, rfl, _, _, rfl, rfl, .int tall, rfl, .ref r, rfl, r, _, 4, _, rfl, rfl, SqL.of hR1, rfl, _, _, rfl, rfl, .int tall, rfl, by show 4 ≤ sizeLine; decide, fun t2 n2 => ?_⟩
    have s2 := same_new n2 (o := .tup ([e + 1, tall - e, 1, tall].map V.int))
    have ht2 : (upd H1 t2 (.tup ([e + 1, tall - e, 1, tall].map V.int))) t2 = some (.tup ([e + 1, tall - e, 1, tall].map V.int)) := upd_same
    refine ⟨by show 6 ≤ sizeLine; decide, fun l1 nl1 => ?_⟩
    have s3 := same_new nl1 (o := .lst (([2, 1, 3, 4, 1, 0] : List Int).map V.int))
    have hl1 : (upd (upd H1 t2 (.tup ([e + 1, tall - e, 1, tall].map V.int))) l1 (.lst (([2, 1, 3, 4, 1, 0] : List Int).map V.int))) l1 = some (.lst (([2, 1, 3, 4, 1, 0] : List Int).map V.int)) := upd_same
    have hR3 := s3 _ _ (s2 _ _ hR1)
    refine ⟨.ref r, rfl, r, _, 3, _, rfl, rfl, SqL.of hR3, rfl, d, 5, rfl, l1, _, _, _, rfl, rfl, SqL.of hl1, ek1, _, rfl, t2, _, rfl, s3 _ _ ht2, fun H4 no s4 hno => ?_⟩
    rw [cutV_to _ (by show k1 ≤ 4; exact hk1), ← List.map_take] at hno
    have s14 := s2.trans (s3.trans s4)
    clear hl1 ek1
    have hR4 := s14 _ _ hR1
    have hti4 := s14 _ _ hti
    have s04 := s1.trans s14
    clear s14 s3 s4 s2
    refine ⟨.ref r, rfl, r, _, 6, _, rfl, rfl, SqL.of hR4, rfl, _, _, rfl, rfl, .int tall, rfl, .ref r, rfl, r, _, 6, _, rfl, rfl, SqL.of hR4, rfl, _, _, rfl, rfl, .int tall, rfl, by show 4 ≤ sizeLine; decide, fun t5 n5 => ?_⟩
    have s5 := same_new n5 (o := .tup ([g + 1, tall - g, 1, tall].map V.int))
    have ht5 : (upd H4 t5 (.tup ([g + 1, tall - g, 1, tall].map V.int))) t5 = some (.tup ([g + 1, tall - g, 1, tall].map V.int)) := upd_same
    refine ⟨.int le, rfl, ?_⟩
    refine ⟨by show 6 ≤ sizeLine; decide, fun l2 nl2 => ?_⟩
    have s6 := same_new nl2 (o := .lst (([1, 2, 4, 3, 1, 0] : List Int).map V.int))
    have hl2 : (upd (upd H4 t5 (.tup ([g + 1, tall - g, 1, tall].map V.int))) l2 (.lst (([1, 2, 4, 3, 1, 0] : List Int).map V.int))) l2 = some (.lst (([1, 2, 4, 3, 1, 0] : List Int).map V.int)) := upd_same
    have hR6 := s6 _ _ (s5 _ _ hR4)
    refine ⟨.ref r, rfl, r, _, 5, _, rfl, rfl, SqL.of hR6, rfl, f', 5, rfl, l2, _, _, _, rfl, rfl, SqL.of hl2, ek2, le, (k2 : Int), rfl, ?_⟩
    obtain ⟨k3, hk3, hk3', ek3⟩ : ∃ k3 : Nat, k3 ≤ 4 ∧ (k3 : Int) ≤ le ∧ (if (k2 : Int) < le then (k2 : Int) else le) = (k3 : Int) := by
      by_cases h : (k2 : Int) < le
      · exact ⟨k2, hk2, by omega, by rw [if_pos h]⟩
      · exact ⟨le.toNat, by omega, by omega, by rw [if_neg h]; omega⟩
    rw [ek3]
    refine ⟨_, rfl, t5, _, rfl, s6 _ _ ht5, fun H7 ca s7 hca => ?_⟩
    rw [cutV_to _ (by show k3 ≤ 4; exact hk3), ← List.map_take] at hca
    have s47 := s5.trans (s6.trans s7)
    have hR7 := s47 _ _ hR4
    refine ⟨.ref r, rfl, r, _, 0, _, rfl, rfl, SqL.of hR7, rfl, _, _, rfl, rfl, .ref ti, rfl, .ref no, rfl, .ref ca, rfl, by show 4 ≤ sizeLine; decide, fun t nt => ?_⟩
    have s8 := same_new nt (o := .tup [.int (a + 1), .ref ti, .ref no, .ref ca])
    refine q _ ⟨t, a + 1, ti, tw, tn, no, _, ca, _⟩ (s04.trans (s47.trans s8)) ⟨upd_same, s8 _ _ (s47 _ _ hti4), htw, s8 _ _ (s47 _ _ hno), ?_, s8 _ _ hca, ?_⟩ ?_ ⟨⟨by show 1 ≤ a + 1; omega, m0, fun x hx => nn4 x (List.mem_of_mem_take hx), fun x hx => nn6 x (List.mem_of_mem_take hx)⟩, te, fun e => ⟨(tj e).1, c, (tj e).2, nc, m2⟩⟩
    · show (List.take _ _).length ≤ 4
      rw [List.length_take]; show min k1 4 ≤ 4; omega
    · show (List.take _ _).length ≤ 4
      rw [List.length_take]; show min k3 4 ≤ 4; omega
    · show ((List.take _ _).length : Int) ≤ le
      rw [List.length_take]; show ((min k3 4 : Nat) : Int) ≤ le; omega
end
end K37

set_option maxRecDepth 100000
set_option maxHeartbeats 8000000
namespace K37
open PySem PySem.Spec PyProof.Rows L2
def seg (wide tall : Int) : List Int := [wide, 3, wide + 1, 16, tall, 12, tall]
def lims (wide tall : Int) (k : Nat) : List Int := [tall, wide + 1, tall + 1, 6, 2] ++ (List.replicate k (seg wide tall)).flatten
theorem lims_succ (wide tall : Int) (k : Nat) : lims wide tall (k + 1) = lims wide tall k ++ seg wide tall := by
  unfold lims
  rw [List.replicate_succ', List.flatten_append, List.append_assoc]
  simp
theorem lims_len (wide tall : Int) (k : Nat) : (lims wide tall k).length = 5 + 7 * k := by
  induction k with
  | zero => rfl
  | succ k ih => rw [lims_succ, List.length_append, ih]; show 5 + 7 * k + 7 = _; omega
theorem lims_pos {wide tall : Int} (hw : 0 < wide ∧ wide < 3000) (ht : 0 < tall ∧ tall < 3000) (k : Nat) : ∀ l ∈ lims wide tall k, 0 < l ∧ l < 1000000 := by
  induction k with
  | zero =>
    intro l hl
    have : l = tall ∨ l = wide + 1 ∨ l = tall + 1 ∨ l = 6 ∨ l = 2 := by simpa [lims] using hl
    omega
  | succ k ih =>
    intro l hl
    rw [lims_succ, List.mem_append] at hl
    rcases hl with hl | hl
    · exact ih l hl
    · have : l = wide ∨ l = 3 ∨ l = wide + 1 ∨ l = 16 ∨ l = tall ∨ l = 12 ∨ l = tall := by simpa [seg] using hl
      omega
theorem row_nn {ls rs : List Int} (h : RowOf ls rs) : ∀ x ∈ rs, 0 ≤ x := fun x hx => by
  obtain ⟨i, hi⟩ := List.mem_iff_getElem?.mp hx
  have hl := (List.getElem?_eq_some_iff.mp hi).1
  rw [h.1] at hl
  obtain ⟨r, h1, h2, _⟩ := h.2 i _ (List.getElem?_eq_getElem hl)
  rw [hi] at h1; cases h1; exact h2
theorem row_get {ls rs : List Int} {i : Nat} {l : Int} (h : RowOf ls rs) (e : ls[i]? = some l) : ∃ r, atI (rs.map V.int) (i : Int) = some (.int r) ∧ 0 ≤ r ∧ r < l := by
  obtain ⟨r, h1, h2, h3⟩ := h.2 i l e
  exact ⟨r, atI_nat (by rw [List.getElem?_map, h1]; rfl), h2, h3⟩
theorem bv_snoc {bs : List Bk} {b : Bk} : bv bs ++ [.ref b.t] = bv (bs ++ [b]) := by unfold bv; rw [List.map_append]; rfl
theorem pcs_snoc {bs : List Bk} {b : Bk} : pcs (bs ++ [b]) = pcs bs ++ b.ps := by unfold pcs; rw [List.flatMap_append]; simp
theorem figs_snoc {ps : List Pc} {p : Pc} : figs (ps ++ [p]) = figs ps ++ p.calls := by unfold figs; rw [List.flatMap_append]; simp
theorem figs_app {ps qs : List Pc} : figs (ps ++ qs) = figs ps ++ figs qs := by unfold figs; rw [List.flatMap_append]
def PsOk (m : Int) (ps : List Pc) : Prop := ∀ (j : Nat) (p : Pc), ps[j]? = some p → PieceOk (decide (j + 1 = ps.length)) m p
def BkOk (m : Int) (b : Bk) : Prop := 1 ≤ b.ps.length ∧ (0 ≤ b.b ∧ b.b ≤ m ∧ 0 ≤ b.a ∧ 0 ≤ b.c) ∧ PsOk m b.ps
theorem lims_at (wide tall : Int) : ∀ k < 6, (lims wide tall 6)[7 * k + 5]? = some wide ∧ (lims wide tall 6)[7 * k + 7]? = some (wide + 1) ∧ (lims wide tall 6)[7 * k + 9]? = some tall ∧ (lims wide tall 6)[7 * k + 11]? = some tall := fun k hk => by
  match k, hk with
  | 0, _ => exact ⟨rfl, rfl, rfl, rfl⟩
  | 1, _ => exact ⟨rfl, rfl, rfl, rfl⟩
  | 2, _ => exact ⟨rfl, rfl, rfl, rfl⟩
  | 3, _ => exact ⟨rfl, rfl, rfl, rfl⟩
  | 4, _ => exact ⟨rfl, rfl, rfl, rfl⟩
  | 5, _ => exact ⟨rfl, rfl, rfl, rfl⟩
section
variable {P : Program} {w : World} {K : PySem.W.Frag} {mg : Str → Option Value} {base : Heap} {t1 t2 : Tok}
/-! ### _law_made_blocks -/
def spMb : Sp := fun vs H Q _ => ∃ (c : Addr) (ns : List Int) (many : Nat) (cap wide tall : Int), vs = [.ref c, .int (many : Int), .int cap, .int wide, .int tall] ∧ H c = some (.lst (ns.map V.int)) ∧ 1 ≤ ns.length ∧ ns.length ≤ 63 ∧ many ≤ 45 ∧ 0 ≤ cap ∧ (0 < wide ∧ wide < 3000) ∧ (0 < tall ∧ tall < 3000) ∧
  ∀ H' p bs, Same H H' → H p = none → H' p = some (.lst (bv bs)) → BsT H' bs → bs.length ≤ many → (pcs bs).length ≤ many → ((figs (pcs bs)).length : Int) ≤ cap → (∀ b ∈ bs, BkOk wide b) → Q (.ref p) H'
abbrev pMb : List Str := ["_law_cells", "_law_many", "_law_cap", "_law_wide", "_law_tall"]
abbrev nMb : List Str := ["_law_cells", "_law_many", "_law_cap", "_law_wide", "_law_tall", "_law_limits", "_law_k", "_law_made", "_law_count", "_law_left", "_law_turn_here", "_law_cell_here", "_law_row_here", "_law_size", "_law_pieces", "_law_piece"]
theorem scBlocks : FnScope nMb pMb (defScope sBlocks) := ⟨rfl, rfl, rfl, by decide +kernel, rfl, by decide +kernel, by decide +kernel⟩
theorem ok_made_blocks {f f_row f_made_piece : Addr} {fd fd_row fd_made_piece : FuncData} (B : Blt mg) (F : Fun K "_law_made_blocks" "_law_made_blocks" sBlocks f fd)
    (F_row : Fun K "_law_row" "_law_row" sRow f_row fd_row) (b_row : Binds K fd_row ["_law_cell_here", "_law_limits"] []) (g_row : mg "_law_row" = some (.ref f_row))
    (F_made_piece : Fun K "_law_made_piece" "_law_made_piece" sPiece f_made_piece fd_made_piece) (b_made_piece : Binds K fd_made_piece pMp []) (g_made_piece : mg "_law_made_piece" = some (.ref f_made_piece)) : FnOk P w K mg base CX0 2 f fd pMb spMb := by
  have G_row : FnOk P w K mg base CX0 1 f_row fd_row ["_law_cell_here", "_law_limits"] (spRow K) := ok_row B F_row
  have G_made_piece : FnOk P w K mg base CX0 1 f_made_piece fd_made_piece pMp spMade := ok_made_piece B F_made_piece
  refine F.ok scBlocks (fun vs H Q E h => ?_) (fun cdv A0 outer s H vs Q E hr h => ?_)
  · obtain ⟨c, ns, many, cap, wide, tall, rfl, _⟩ := h; rfl
  · obtain ⟨c, ns, many, cap, wide, tall, rfl, hC, hn1, hn2, hm, hcap, hw, htl, q⟩ := h
    have hr1 : Room 1 _ := hr
    refine ⟨_, (pss_cons (ps_set (i := 5) scBlocks.nd rfl (.inl rfl) (pe_lst (pa_cons (pv 4) (pa_cons (pe_op op_add (pv 3) pe_int) (pa_cons (pe_op op_add (pv 4) pe_int) (pa_cons pe_int (pa_cons pe_int pa_nil)))))))
      (pss_cons (ps_for (PassesOwn.never) rfl (pi_range1 (by rfl) B.range (pa_cons pe_int pa_nil)) (pg_name (i := 6) scBlocks.nd rfl (.inl rfl))
      (pss_one (ps_set (i := 5) scBlocks.nd rfl (.inl rfl) (pe_op op_cat (pv 5) (pe_lst (pa_cons (pv 3) (pa_cons pe_int (pa_cons (pe_op op_add (pv 3) pe_int) (pa_cons pe_int (pa_cons (pv 4) (pa_cons pe_int (pa_cons (pv 4) pa_nil))))))))))))
      (pss_cons (ps_par3 (i := 7) (j := 8) (l := 9) (by rfl) scBlocks.nd rfl rfl rfl (by decide) (by decide) (by decide) rfl rfl rfl (pa_cons (pe_lst pa_nil) (pa_cons pe_int (pa_cons (pv 2) pa_nil))) (by rfl))
      (pss_cons (ps_for (PassesOwn.never) rfl (pi_range1 (by rfl) B.range (pa_cons (pv 1) pa_nil)) (pg_name (i := 10) scBlocks.nd rfl (.inl rfl))
      (pss_one (ps_if (pt_cmpR op_lt (pv 8) (pv 1) (nomark _))
       (pss_cons (ps_set (i := 11) scBlocks.nd rfl (.inl rfl) (pe_ix ix_list (pv 0) (pe_op op_modN (pe_callTy call_int1 (by rfl) B.int (by decide +kernel) (pa_cons (pv 10) pa_nil)) (pe_callB call_len (by rfl) B.len PySem.boot_len (pa_cons (pv 0) pa_nil))) (fun _ _ => rfl)))
        (pss_cons (ps_set (i := 12) scBlocks.nd rfl (.inl rfl) (pe_call G_row hr1 (by rfl) g_row F_row.kp b_row .nil pass0 (pa_cons (pe_op op_add (pv 11) (pe_op op_mul pe_int (pe_op op_fdivN (pv 10) (pe_callB call_len (by rfl) B.len PySem.boot_len (pa_cons (pv 0) pa_nil))))) (pa_cons (pv 5) pa_nil))))
        (pss_cons (ps_set (i := 13) scBlocks.nd rfl (.inl rfl) (pe_callB (call_min2 rfl) (by rfl) B.min (by decide +kernel) (pa_cons (pe_op op_add (pe_ix ix_list (pv 12) pe_int (fun _ _ => rfl)) pe_int) (pa_cons (pe_op op_sub (pv 1) (pv 8)) pa_nil))))
        (pss_cons (ps_set (i := 14) scBlocks.nd rfl (.inl rfl) (pe_lst pa_nil))
        (pss_cons (ps_for (PassesOwn.never) rfl (pi_range1 (by rfl) B.range (pa_cons (pv 13) pa_nil)) (pg_name (i := 6) scBlocks.nd rfl (.inl rfl))
        (pss_cons (ps_set (i := 15) scBlocks.nd rfl (.inl rfl) (pe_call G_made_piece hr1 (by rfl) g_made_piece F_made_piece.kp b_made_piece .nil pass0 (pa_cons (pe_slice sl_list (pv 12) (po_some (pe_op op_add (pe_op op_mul pe_int (pv 6)) pe_int)) (po_some (pe_op op_add (pe_op op_mul pe_int (pv 6)) pe_int))) (pa_cons (pe_cmpR op_eq (pv 6) (pe_op op_sub (pv 13) pe_int) (nomark _)) (pa_cons (pv 9) (pa_cons (pv 4) pa_nil))))))
         (pss_cons (ps_set (i := 9) scBlocks.nd rfl (.inl rfl) (pe_op op_sub (pv 9) (pe_callB call_len (by rfl) B.len PySem.boot_len (pa_cons (pe_ix ix_tup (pv 15) pe_int (fun _ _ => rfl)) pa_nil))))
         (pss_one (ps_expr (pe_bm PySem.F.plainAttrs_list PySem.F.slot_list_append PySem.F.type_list_append mt_append (pv 14) (pa_cons (pv 15) pa_nil)))))))
        (pss_cons (ps_expr (pe_bm PySem.F.plainAttrs_list PySem.F.slot_list_append PySem.F.type_list_append mt_append (pv 7) (pa_cons (pe_tup (pa_cons (pe_op op_add (pe_ix ix_list (pv 12) pe_int (fun _ _ => rfl)) pe_int) (pa_cons (pe_ix ix_list (pv 12) pe_int (fun _ _ => rfl)) (pa_cons (pe_ix ix_list (pv 12) pe_int (fun _ _ => rfl)) (pa_cons (pe_cmpR op_eq (pe_ix ix_list (pv 12) pe_int (fun _ _ => rfl)) pe_int (nomark _)) (pa_cons (pe_callTy call_tuple_of (by rfl) B.tuple (by decide +kernel) (pa_cons (pv 14) pa_nil)) pa_nil)))))) pa_nil)))
        (pss_one (ps_set (i := 8) scBlocks.nd rfl (.inl rfl) (pe_op op_add (pv 8) (pv 13))))))))))
       pss_nil)))
      (pss_one (ps_ret (pv 7))))))), ?_⟩
    refine ⟨.int tall, rfl, .int wide, rfl, _, _, rfl, rfl, .int tall, rfl, _, _, rfl, rfl, by show 5 ≤ sizeLine; decide, fun L0 nL0 => ?_⟩
    refine ⟨6, rfl, by decide, by decide, ?_⟩
    refine for_range (lo := 0) (n := 6) (fun k σ H' => ∃ (y6 : Option V) (L : Addr), σ = [some (.ref c), some (.int (many : Int)), some (.int cap), some (.int wide), some (.int tall), some (.ref L), y6, none, none, none, none, none, none, none, none, none] ∧ Same H H' ∧ H' L = some (.lst ((lims wide tall k).map V.int))) ⟨none, L0, rfl, same_new nL0, upd_same⟩ ?_ ?_
    · rintro k σ H' hk ⟨y6, L, rfl, sm, hL⟩
      refine ⟨.ref L, rfl, .int wide, rfl, .int wide, rfl, _, _, rfl, rfl, .int tall, rfl, .int tall, rfl, by show 7 ≤ sizeLine; decide, fun z nz => ?_⟩
      have sz := same_new nz (o := .lst ((seg wide tall).map V.int))
      refine ⟨L, z, _, (seg wide tall).map V.int, rfl, rfl, sz _ _ hL, upd_same, (by rw [List.length_map, lims_len, sizeLine_eq]; show 5 + 7 * k + 7 ≤ _; omega), fun r nr => ?_⟩
      refine ⟨_, r, rfl, sm.trans (sz.trans (same_new nr)), ?_⟩
      rw [lims_succ, List.map_append]; exact upd_same
    rintro σ H1 ⟨y6, L, rfl, s1, hL⟩
    have hll := lims_len wide tall 6
    have hlp := lims_pos hw htl 6
    have lat := lims_at wide tall
    have l0 : (lims wide tall 6)[0]? = some tall := rfl
    have l1 : (lims wide tall 6)[1]? = some (wide + 1) := rfl
    have l2 : (lims wide tall 6)[2]? = some (tall + 1) := rfl
    have l3 : (lims wide tall 6)[3]? = some 6 := rfl
    have l4 : (lims wide tall 6)[4]? = some 2 := rfl
    generalize lims wide tall 6 = ls at hL hll hlp lat l0 l1 l2 l3 l4
    refine ⟨Nat.zero_le _, fun O nO => ?_⟩
    have sO := same_new nO (o := .lst [])
    have hO : (upd H1 O (.lst [])) O = some (.lst []) := upd_same
    have nHO : H O = none := s1.free nO
    generalize upd H1 O (.lst []) = H2 at sO hO ⊢
    refine ⟨.int cap, rfl, _, _, _, rfl, ?_⟩
    refine ⟨.int (many : Int), rfl, (many : Int), rfl, by omega, by omega, ?_⟩
    rw [Int.toNat_natCast]
    refine for_range (lo := 0) (n := many) (fun i σ H' => ∃ (y6 y10 y11 y12 y13 y14 y15 : Option V) (bs : List Bk) (co : Nat) (le : Int), σ = [some (.ref c), some (.int (many : Int)), some (.int cap), some (.int wide), some (.int tall), some (.ref L), y6, some (.ref O), some (.int (co : Int)), some (.int le), y10, y11, y12, y13, y14, y15] ∧ Same H H' ∧ H' L = some (.lst (ls.map V.int)) ∧ H' O = some (.lst (bv bs)) ∧ BsT H' bs ∧ bs.length ≤ i ∧ (pcs bs).length = co ∧ co ≤ many ∧ 0 ≤ le ∧ ((figs (pcs bs)).length : Int) + le = cap ∧ ∀ b ∈ bs, BkOk wide b)
      ⟨y6, none, none, none, none, none, none, [], 0, cap, rfl, s1.trans sO, sO _ _ hL, hO, (fun b hb => nomatch hb), Nat.le_refl _, rfl, Nat.zero_le _, hcap, by show ((0 : Nat) : Int) + cap = cap; omega, (fun b hb => nomatch hb)⟩ ?_ ?_
    · rintro i σ H' hi ⟨y6, y10, y11, y12, y13, y14, y15, bs, co, le, rfl, sm, hL, hO, hb, hbl, hco, hcm, hle, hfg, hne⟩
      have e0 : (0 : Int) + (i : Int) = (i : Int) := by omega
      rw [e0]
      refine ⟨.int (co : Int), rfl, .int (many : Int), rfl, _, _, rfl, rfl, _, rfl, ite2 (fun hlt => ?_) (fun _ => ⟨_, _, _, _, _, _, _, bs, co, le, rfl, sm, hL, hO, hb, by omega, hco, hcm, hle, hfg, hne⟩)⟩
      have hlt := of_decide_eq_true hlt
      have hC' := sm _ _ hC
      have hnl : ((ns.length : Nat) : Int) ≠ 0 := by omega
      have hcl : ns.length = (ns.map V.int).length := (List.length_map _).symm
      have p0 : 0 ≤ (i : Int).fmod (ns.length : Int) := Int.fmod_nonneg_of_pos _ (by omega)
      have p1 : (i : Int).fmod (ns.length : Int) < (ns.length : Int) := Int.fmod_lt_of_pos _ (by omega)
      obtain ⟨m, hme⟩ := Int.eq_ofNat_of_zero_le p0
      obtain ⟨cv, hcv⟩ : ∃ x, ns[m]? = some x := ⟨_, List.getElem?_eq_getElem (by omega)⟩
      refine ⟨.ref c, rfl, .int (i : Int), rfl, .inl ⟨_, rfl, .ref c, rfl, .ref c, ns.length, rfl, .inl ⟨_, SqL.of hC', hcl⟩, _, _, rfl, rfl, hnl, c, _, _, _, rfl, rfl, SqL.of hC', (by rw [hme]; exact atI_nat (v := V.int cv) (by rw [List.getElem?_map, hcv]; rfl)), ?_⟩⟩
      refine ⟨.int cv, rfl, .int (i : Int), rfl, .ref c, rfl, .ref c, ns.length, rfl, .inl ⟨_, SqL.of hC', hcl⟩, _, _, rfl, rfl, ⟨hnl, by omega⟩, _, _, rfl, rfl, .inl ⟨by decide, by decide⟩, _, _, rfl, rfl, .ref L, rfl, _, L, ls, rfl, SqL.of hL, by omega, hlp, fun H3 R rs s3 nR hR hrow => ?_⟩
      obtain ⟨r0, a0, bz0, _⟩ := row_get hrow l0
      obtain ⟨r1, a1, b1, c1⟩ := row_get hrow l1
      obtain ⟨r2, a2, bz2, _⟩ := row_get hrow l2
      obtain ⟨r3, a3, b3, c3⟩ := row_get hrow l3
      obtain ⟨r4, a4, _, _⟩ := row_get hrow l4
      have hrl : rs.length = 47 := by rw [hrow.1, hll]
      have hnn := row_nn hrow
      refine ⟨.ref R, rfl, R, _, 3, _, rfl, rfl, SqL.of hR, a3, _, _, rfl, rfl, .int (many : Int), rfl, .int (co : Int), rfl, _, _, rfl, rfl, _, _, rfl, ?_⟩
      obtain ⟨sz, z1, z2, z3, ez⟩ : ∃ sz : Nat, 1 ≤ sz ∧ sz ≤ 6 ∧ co + sz ≤ many ∧ (if (many : Int) - (co : Int) < r3 + 1 then (many : Int) - (co : Int) else r3 + 1) = (sz : Int) := by
        by_cases h : (many : Int) - (co : Int) < r3 + 1
        · exact ⟨many - co, by omega, by omega, by omega, by rw [if_pos h]; omega⟩
        · exact ⟨(r3 + 1).toNat, by omega, by omega, by omega, by rw [if_neg h]; omega⟩
      rw [ez]
      refine ⟨Nat.zero_le _, fun Pl nPl => ?_⟩
      have hO3 := s3 _ _ hO
      have hL3 := s3 _ _ hL
      have hb3 := hb.kp (Kp.of s3)
      have sm3 := sm.trans s3
      refine ⟨.int (sz : Int), rfl, (sz : Int), rfl, by omega, by omega, ?_⟩
      rw [Int.toNat_natCast]
      obtain ⟨le0, hle0⟩ : ∃ x, x = le := ⟨_, rfl⟩
      refine for_range (lo := 0) (n := sz) (fun k σ H' => ∃ (y6 y15 : Option V) (ps : List Pc) (le : Int), σ = [some (.ref c), some (.int (many : Int)), some (.int cap), some (.int wide), some (.int tall), some (.ref L), y6, some (.ref O), some (.int (co : Int)), some (.int le), some (.int (i : Int)), some (.int cv), some (.ref R), some (.int (sz : Int)), some (.ref Pl), y15] ∧ Same H3 H' ∧ H' Pl = some (.lst (pv' ps)) ∧ (∀ p ∈ ps, PcT H' p) ∧ ps.length = k ∧ 0 ≤ le ∧ ((figs ps).length : Int) + le = le0 ∧ ∀ (j : Nat) (p : Pc), ps[j]? = some p → PieceOk (decide (j + 1 = sz)) wide p)
        ⟨_, _, [], le, rfl, same_new nPl, upd_same, (fun p hp => nomatch hp), rfl, hle, by rw [hle0]; show ((0 : Nat) : Int) + le = le; omega, fun j p h => by simp at h⟩ ?_ ?_
      · rintro k σ H4 hk ⟨y6, y15, ps, le, rfl, s4, hPl, hps, hpl, hle, hf1, hpo⟩
        have e0 : (0 : Int) + (k : Int) = (k : Int) := by omega
        rw [e0]
        have hR4 := s4 _ _ hR
        refine ⟨.ref R, rfl, .int (k : Int), rfl, 7, (k : Int), rfl, rfl, .inl ⟨by decide, by decide⟩, _, 5, rfl, rfl, ((7 * k + 5 : Nat) : Int), congrArg V.int (by omega), .int (k : Int), rfl, 7, (k : Int), rfl, rfl, .inl ⟨by decide, by decide⟩, _, 12, rfl, rfl, ((7 * k + 12 : Nat) : Int), congrArg V.int (by omega), R, _, rfl, SqL.of hR4, fun z nz => ?_⟩
        have hcut : cutV (rs.map V.int) (some ((7 * k + 5 : Nat) : Int)) (some ((7 * k + 12 : Nat) : Int)) = ((rs.drop (7 * k + 5)).take 7).map V.int := by
          rw [cutV_mid _ (by rw [List.length_map]; omega) (by rw [List.length_map]; omega), List.map_take, List.map_drop]; congr 1; omega
        rw [hcut]
        have sz' := same_new nz (o := .lst (((rs.drop (7 * k + 5)).take 7).map V.int))
        refine ⟨.int (k : Int), rfl, .int (sz : Int), rfl, _, _, rfl, rfl, rfl, .int le, rfl, .int tall, rfl, z, _, _, le, tall, wide, rfl, upd_same, (by rw [List.length_take, List.length_drop]; omega), (fun x hx => hnn x (List.mem_of_mem_drop (List.mem_of_mem_take hx))), hle, ?_, ?_, ?_, ?_, by omega, fun H5 p s5 hp hcl hpk => ?_⟩
        · obtain ⟨x, hx, _, hx2⟩ := hrow.2 _ _ (lat k (by omega)).1
          rw [List.getD_eq_getElem?_getD, List.getElem?_take_of_lt (by omega), List.getElem?_drop, Nat.add_zero, hx]
          show x + 1 ≤ wide; omega
        · obtain ⟨x, hx, _, hx2⟩ := hrow.2 _ _ (lat k (by omega)).2.1
          rw [List.getD_eq_getElem?_getD, List.getElem?_take_of_lt (by omega), List.getElem?_drop, show 7 * k + 5 + 2 = 7 * k + 7 from rfl, hx]
          show x ≤ wide; omega
        · obtain ⟨x, hx, _, hx2⟩ := hrow.2 _ _ (lat k (by omega)).2.2.1
          rw [List.getD_eq_getElem?_getD, List.getElem?_take_of_lt (by omega), List.getElem?_drop, show 7 * k + 5 + 4 = 7 * k + 9 from rfl, hx]
          show x ≤ tall; omega
        · obtain ⟨x, hx, _, hx2⟩ := hrow.2 _ _ (lat k (by omega)).2.2.2
          rw [List.getD_eq_getElem?_getD, List.getElem?_take_of_lt (by omega), List.getElem?_drop, show 7 * k + 5 + 6 = 7 * k + 11 from rfl, hx]
          show x ≤ tall; omega
        have s45 := sz'.trans s5
        obtain ⟨h1, h2, h3, h4, h5, h6, h7⟩ := id hp
        refine ⟨.int le, rfl, .ref p.t, rfl, p.t, _, 3, .ref p.ca, rfl, rfl, SqT.of h1, rfl, .ref p.ca, p.calls.length, rfl, .inr ⟨_, SqT.of h6, (List.length_map _).symm⟩, _, _, rfl, rfl, ?_⟩
        have hPl5 := s45 _ _ hPl
        refine ⟨.ref Pl, rfl, .inl ⟨rfl, _, SqL.of hPl5⟩, .ref p.t, rfl, Pl, _, .ref p.t, rfl, rfl, hPl5, (by rw [pv_len]; exact small1000 (by omega)), ?_⟩
        have kp5 : Kp H5 (upd H5 Pl (.lst (pv' ps ++ [.ref p.t]))) := Kp.but hPl5 (fun z => z) upd_but
        refine ⟨_, _, ps ++ [p], _, rfl, same_at (s4.trans s45) nPl, by rw [upd_same, pv_snoc], fun x hx => ?_, by rw [List.length_append, hpl]; rfl, by omega, by rw [figs_snoc, List.length_append]; omega, fun j x hj => ?_⟩
        rotate_left
        · by_cases hjl : j < ps.length
          · rw [List.getElem?_append_left hjl] at hj
            exact hpo j x hj
          · have hj1 := (List.getElem?_eq_some_iff.mp hj).1
            rw [List.length_append, List.length_singleton] at hj1
            have ej : j = ps.length := by omega
            subst ej
            rw [List.getElem?_append_right (Nat.le_refl _), Nat.sub_self] at hj
            cases hj
            have eb : decide (V.int (k : Int) = V.int ((sz : Int) - 1)) = decide (ps.length + 1 = sz) := by
              rw [Bool.eq_iff_iff, decide_eq_true_iff, decide_eq_true_iff, hpl]
              constructor
              · intro e; have := V.int.inj e; omega
              · intro e; exact congrArg V.int (by omega)
            rw [← eb]; exact hpk
        rcases List.mem_append.mp hx with hx | hx
        · exact ((hps x hx).kp (Kp.of s45)).kp kp5
        · rw [List.mem_singleton.mp hx]; exact hp.kp kp5
      · rintro σ H4 ⟨y6, y15, ps, le, rfl, s4, hPl, hps, hpl, hle, hf1, hpo⟩
        have hR4 := s4 _ _ hR
        have hO4 := s4 _ _ hO3
        refine ⟨.ref O, rfl, .inl ⟨rfl, _, SqL.of hO4⟩, .ref R, rfl, R, _, 0, _, rfl, rfl, SqL.of hR4, a0, _, _, rfl, rfl, .ref R, rfl, R, _, 1, _, rfl, rfl, SqL.of hR4, a1, .ref R, rfl, R, _, 2, _, rfl, rfl, SqL.of hR4, a2, .ref R, rfl, R, _, 4, _, rfl, rfl, SqL.of hR4, a4, rfl, .ref Pl, rfl, Pl, pv' ps, rfl, .inl ⟨SqL.of hPl, fun pt npt => ?_⟩⟩
        have s5 := same_new npt (o := .tup (pv' ps))
        have hpt : (upd H4 pt (.tup (pv' ps))) pt = some (.tup (pv' ps)) := upd_same
        generalize upd H4 pt (.tup (pv' ps)) = H5 at s5 hpt ⊢
        refine ⟨by show 5 ≤ sizeLine; decide, fun t nt => ?_⟩
        have s6 := same_new nt (o := .tup [.int (r0 + 1), .int r1, .int r2, .bl (decide (V.int r4 = V.int 1)), .ref pt])
        have ht : (upd H5 t (.tup [.int (r0 + 1), .int r1, .int r2, .bl (decide (V.int r4 = V.int 1)), .ref pt])) t = some (.tup [.int (r0 + 1), .int r1, .int r2, .bl (decide (V.int r4 = V.int 1)), .ref pt]) := upd_same
        have s36 := s4.trans (s5.trans s6)
        have hO6 := s36 _ _ hO3
        have hpt6 := s6 _ _ hpt
        have hps6 : ∀ p ∈ ps, PcT (upd H5 t (.tup [.int (r0 + 1), .int r1, .int r2, .bl (decide (V.int r4 = V.int 1)), .ref pt])) p := fun p hp => (hps p hp).kp (Kp.of (s5.trans s6))
        refine ⟨O, _, .ref t, rfl, rfl, hO6, (by rw [bv_len]; exact small1000 (by omega)), ?_⟩
        have kp6 : Kp (upd H5 t (.tup [.int (r0 + 1), .int r1, .int r2, .bl (decide (V.int r4 = V.int 1)), .ref pt])) (upd (upd H5 t (.tup [.int (r0 + 1), .int r1, .int r2, .bl (decide (V.int r4 = V.int 1)), .ref pt])) O (.lst (bv bs ++ [.ref t]))) := Kp.but hO6 (fun z => z) upd_but
        have nLO : L ≠ O := fun e => by
          have h1 := s36 _ _ hL3
          rw [e, hO6] at h1
          have h2 := congrArg (fun o : Option HO => match o with | some (.lst (V.int _ :: _)) => true | _ => false) h1
          have h3 : ls.map V.int = V.int tall :: (ls.map V.int).tail := by
            cases ls with
            | nil => cases l0
            | cons x ls => cases l0; rfl
          rw [h3] at h2
          cases bs with
          | nil => exact absurd (show false = true from h2) (by decide)
          | cons b bs => exact absurd h2 (by show (false = true) → False; decide)
        refine ⟨.int (co : Int), rfl, .int (sz : Int), rfl, _, _, rfl, rfl, ?_⟩
        refine ⟨y6, some (.int (i : Int)), some (.int cv), some (.ref R), some (.int (sz : Int)), some (.ref Pl), y15, bs ++ [⟨t, r0 + 1, r1, r2, decide (V.int r4 = V.int 1), pt, ps⟩], co + sz, le, ?_, same_at (sm3.trans s36) nHO, upd_but _ _ nLO (s36 _ _ hL3), by rw [upd_same]; exact congrArg (fun x => some (HO.lst x)) (bv_snoc (b := ⟨t, r0 + 1, r1, r2, decide (V.int r4 = V.int 1), pt, ps⟩)), ?_, by rw [List.length_append]; show bs.length + 1 ≤ i + 1; omega, by rw [pcs_snoc, List.length_append, hco]; show co + ps.length = _; omega, z3, hle, by rw [pcs_snoc, figs_app, List.length_append]; show ((figs (pcs bs)).length + (figs ps).length : Nat) + le = cap; omega, ?_⟩
        · have ec : ((co + sz : Nat) : Int) = (co : Int) + (sz : Int) := by omega
          rw [ec]; rfl
        · refine BsT.app ((hb3.kp (Kp.of s36)).kp kp6) fun x hx => ?_
          rw [List.mem_singleton.mp hx]
          exact BkT.kp (H := upd H5 t (.tup [.int (r0 + 1), .int r1, .int r2, .bl (decide (V.int r4 = V.int 1)), .ref pt])) ⟨ht, hpt6, by show ps.length ≤ 50; omega, hps6⟩ kp6
        · intro x hx
          rcases List.mem_append.mp hx with hx | hx
          · exact hne x hx
          · rw [List.mem_singleton.mp hx]; exact ⟨by show 1 ≤ ps.length; omega, ⟨b1, by show r1 ≤ wide; omega, by show 0 ≤ r0 + 1; omega, bz2⟩, fun j p hj => by show PieceOk (decide (j + 1 = ps.length)) wide p; rw [hpl]; exact hpo j p hj⟩
    · rintro σ H' ⟨y6, y10, y11, y12, y13, y14, y15, bs, co, le, rfl, sm, hL, hO, hb, hbl, hco, hcm, hle, hfg, hne⟩
      exact ⟨.ref O, rfl, q H' O bs sm nHO hO hb (by omega) (by omega) (by omega) hne⟩
end
end K37

set_option maxRecDepth 100000
set_option maxHeartbeats 8000000
namespace K37
open PySem PySem.Spec PyProof.Rows L2
/-- a piece that is no last one, standing -/
def MidOk (H : Hp) (m : Int) (p : Pc) : Prop := PcT H p ∧ PieceOk false m p
theorem MidOk.kp {H H' : Hp} {m : Int} {p : Pc} (h : MidOk H m p) (s : Kp H H') : MidOk H' m p := ⟨h.1.kp s, h.2⟩
theorem last_split {α : Type} {l : List α} (h : l ≠ []) : ∃ r x, l = r ++ [x] := ⟨l.dropLast, l.getLast h, (List.dropLast_concat_getLast h).symm⟩
theorem pcs_take {bs : List Bk} {b : Bk} {i : Nat} (h : bs[i]? = some b) : pcs (bs.take (i + 1)) = pcs (bs.take i) ++ b.ps := by unfold pcs; rw [flat_take _ h]
section
variable {P : Program} {w : World} {K : PySem.W.Frag} {mg : Str → Option Value} {base : Heap} {t1 t2 : Tok}
def spMg : Sp := fun vs H Q _ => ∃ (a : Addr) (bs : List Bk) (wide : Int), vs = [.ref a] ∧ H a = some (.lst (bv bs)) ∧ BsT H bs ∧ (pcs bs).length ≤ 45 ∧ (∀ b ∈ bs, BkOk wide b) ∧ 1 ≤ wide ∧
  ∀ H' p cs, Same H H' → H p = none → H' p = some (.lst (bv cs)) → BsT H' cs → cs.length ≤ 1 → (pcs cs).length = (pcs bs).length → (figs (pcs cs)).length = (figs (pcs bs)).length → (∀ b ∈ cs, BkOk wide b) → Q (.ref p) H'
abbrev nMg : List Str := ["_law_blocks", "_law_pieces", "_law_block", "_law_piece", "_law_tie", "_law_last"]
theorem scMerged : FnScope nMg ["_law_blocks"] (defScope sMerged) := ⟨rfl, rfl, rfl, by decide +kernel, rfl, by decide +kernel, by decide +kernel⟩
theorem ok_merged {f : Addr} {fd : FuncData} (B : Blt mg) (F : Fun K "_law_merged" "_law_merged" sMerged f fd) : FnOk P w K mg base CX0 1 f fd ["_law_blocks"] spMg := by
  refine F.ok scMerged (fun vs H Q E h => ?_) (fun cdv A0 outer s H vs Q E hr h => ?_)
  · obtain ⟨a, bs, wide, rfl, _⟩ := h; rfl
  · obtain ⟨a, bs, wide, rfl, ha, hb, hpl, hok, hw, q⟩ := h
    refine ⟨_, (pss_cons (ps_set (i := 1) scMerged.nd rfl (.inl rfl) (pe_lst pa_nil))
      (pss_cons (ps_for (PassesOwn.never) rfl (pi_list (pv 0)) (pg_name (i := 2) scMerged.nd rfl (.inl rfl))
      (pss_one (ps_for (PassesOwn.never) rfl (pi_tup (pe_ix ix_tup (pv 2) pe_int (fun _ _ => rfl))) (pg_name (i := 3) scMerged.nd rfl (.inl rfl))
       (pss_cons (ps_set (i := 4) scMerged.nd rfl (.inl rfl) (pe_ix ix_tup (pv 3) pe_int (fun _ _ => rfl)))
        (Evl.pss_cut (ps_if (pt_cmpR op_eq (pe_ix ix_tup (pv 4) pe_int (fun _ _ => rfl)) pe_str (nomark _))
        (pss_one (ps_set (i := 4) scMerged.nd rfl (.inl rfl) (pe_tup (pa_cons pe_str (pa_cons pe_int pa_nil)))))
        pss_nil)
        (pss_one (ps_expr (pe_bm PySem.F.plainAttrs_list PySem.F.slot_list_append PySem.F.type_list_append mt_append (pv 1) (pa_cons (pe_tup (pa_cons (pe_ix ix_tup (pv 3) pe_int (fun _ _ => rfl)) (pa_cons (pv 4) (pa_cons (pe_ix ix_tup (pv 3) pe_int (fun _ _ => rfl)) (pa_cons (pe_ix ix_tup (pv 3) pe_int (fun _ _ => rfl)) pa_nil))))) pa_nil)))))))))
      (pss_cons (ps_if (pt_cmpR op_eq (pe_callB call_len (by rfl) B.len PySem.boot_len (pa_cons (pv 1) pa_nil)) pe_int (nomark _))
      (pss_one (ps_ret (pe_lst pa_nil)))
      pss_nil)
      (pss_cons (ps_set (i := 5) scMerged.nd rfl (.inl rfl) (pe_bm0 PySem.F.plainAttrs_list PySem.F.slot_list_pop PySem.F.type_list_pop mt_pop (pv 1)))
      (pss_cons (ps_expr (pe_bm PySem.F.plainAttrs_list PySem.F.slot_list_append PySem.F.type_list_append mt_append (pv 1) (pa_cons (pe_tup (pa_cons (pe_ix ix_tup (pv 5) pe_int (fun _ _ => rfl)) (pa_cons (pe_tup (pa_cons pe_str pa_nil)) (pa_cons (pe_ix ix_tup (pv 5) pe_int (fun _ _ => rfl)) (pa_cons (pe_ix ix_tup (pv 5) pe_int (fun _ _ => rfl)) pa_nil))))) pa_nil)))
      (pss_one (ps_ret (pe_lst (pa_cons (pe_op op_catA (pe_slice sl_tupH (pe_ix ix_list (pv 0) pe_int (fun _ _ => rfl)) po_none (po_some pe_int)) (pe_tup (pa_cons (pe_callTy call_tuple_of (by rfl) B.tuple (by decide +kernel) (pa_cons (pv 1) pa_nil)) pa_nil))) pa_nil))))))))), ?_⟩
    refine ⟨Nat.zero_le _, fun O nO => ?_⟩
    have s0 := same_new nO (o := .lst [])
    have hO : (upd H O (.lst [])) O = some (.lst []) := upd_same
    generalize upd H O (.lst []) = H0 at s0 hO ⊢
    have nOt : ∀ {x o}, H x = some o → x ≠ O := fun e => ne_of_none e nO
    refine ⟨.ref a, rfl, a, rfl, ⟨_, SqL.of (s0 _ _ ha)⟩, for_list (K := K) (a := a) (xs := bv bs) (fun i σ H' => ∃ (y2 y3 y4 : Option V) (qs : List Pc), σ = [some (.ref a), some (.ref O), y2, y3, y4, none] ∧ Same H H' ∧ H' O = some (.lst (pv' qs)) ∧ (∀ q ∈ qs, MidOk H' wide q) ∧ qs.length = (pcs (bs.take i)).length ∧ (figs qs).length = (figs (pcs (bs.take i))).length) ⟨none, none, none, [], rfl, s0, hO, (fun q h => nomatch h), rfl, rfl⟩ (fun i σ H' _ ⟨_, _, _, _, _, sm, _⟩ => SqL.of (sm _ _ ha)) ?_ ?_⟩
    · rintro i x σ H' hi ⟨y2, y3, y4, qs, rfl, sm, hO, hq, hql, hqf⟩
      obtain ⟨b, en, rfl⟩ := of_bv hi
      have hbm := List.mem_of_getElem? en
      obtain ⟨h1, h2, h3, h4⟩ := (hb b hbm).kp (Kp.of sm)
      obtain ⟨k1, k2, k3⟩ := hok b hbm
      rw [pcs_take en]
      have hle : (pcs (bs.take i)).length + b.ps.length ≤ 45 := by
        have e1 : pcs bs = pcs (bs.take (i + 1)) ++ pcs (bs.drop (i + 1)) := by unfold pcs; rw [← List.flatMap_append, List.take_append_drop]
        have e2 := congrArg List.length e1
        rw [List.length_append, pcs_take en, List.length_append] at e2
        omega
      refine ⟨.ref b.t, rfl, b.t, _, 4, .ref b.pt, rfl, rfl, SqT.of h1, rfl, b.pt, rfl, ⟨_, SqT.of h2⟩, for_tup (K := K) (a := b.pt) (xs := pv' b.ps) (fun j σ H' => ∃ (y3 y4 : Option V) (qs : List Pc), σ = [some (.ref a), some (.ref O), some (.ref b.t), y3, y4, none] ∧ Same H H' ∧ H' O = some (.lst (pv' qs)) ∧ (∀ q ∈ qs, MidOk H' wide q) ∧ qs.length = (pcs (bs.take i)).length + j ∧ (figs qs).length = (figs (pcs (bs.take i) ++ b.ps.take j)).length) ⟨_, _, qs, rfl, sm, hO, hq, hql, by rw [List.take_zero, List.append_nil]; exact hqf⟩ (fun j σ H' _ ⟨_, _, _, _, sm', _⟩ => SqT.of (((hb b hbm).kp (Kp.of sm')).2.1)) ?_ ?_⟩
      · rintro j x σ H1 hj ⟨y3, y4, qs, rfl, sm1, hO1, hq1, hql1, hqf1⟩
        obtain ⟨p, ep, rfl⟩ := of_pv hj
        have hjl := (List.getElem?_eq_some_iff.mp ep).1
        have hp := (((hb b hbm).kp (Kp.of sm1)).2.2.2 p (List.mem_of_getElem? ep))
        obtain ⟨c1, c2, c3, c4, c5, c6, c7⟩ := id hp
        obtain ⟨⟨o1, o2⟩, o3, o4⟩ := k3 j p ep
        refine ⟨.ref p.t, rfl, p.t, _, 1, .ref p.ti, rfl, rfl, SqT.of c1, rfl, ?_⟩
        refine ⟨fun σ' H' => ∃ (ti : Addr) (tw : Str) (n : Int), σ' = [some (.ref a), some (.ref O), some (.ref b.t), some (.ref p.t), some (.ref ti), none] ∧ Same H1 H' ∧ H' ti = some (.tup [.str tw, .int n]) ∧ tw ∈ words ∧ (tw = Str.ofString "blank" ∨ tw = Str.ofString "joint") ∧ 0 ≤ n ∧ n ≤ wide, ?_, ?_⟩
        · refine ⟨.ref p.ti, rfl, p.ti, _, 0, .str p.tw, rfl, rfl, SqT.of c2, (show atI (V.str p.tw :: _) ((0 : Nat) : Int) = _ from atI_nat rfl), rfl, _, rfl, ite2 (fun h => ?_) (fun h => ?_)⟩
          · exact ⟨by show 2 ≤ sizeLine; decide, fun t nt => ⟨t, Str.ofString "blank", 1, rfl, same_new nt, upd_same, by decide +kernel, .inl rfl, by decide, hw⟩⟩
          · cases hd : decide (j + 1 = b.ps.length) with
            | true => exact absurd (decide_eq_true (congrArg V.str (o3 hd).1)) h
            | false =>
              obtain ⟨e1, n, e2, e3, e4⟩ := o4 hd
              exact ⟨p.ti, p.tw, n, rfl, Same.refl _, by rw [c2]; unfold tieV; rw [e2]; rfl, c3, e1, e3, e4⟩
        rintro σ' H2 ⟨ti, tw, n, rfl, s2, hti, htw, hbj, n0, n1⟩
        have d1 := s2 _ _ c1
        refine ⟨.ref O, rfl, .inl ⟨rfl, _, SqL.of (s2 _ _ hO1)⟩, .ref p.t, rfl, p.t, _, 0, .int p.h, rfl, rfl, SqT.of d1, rfl, .ref ti, rfl, .ref p.t, rfl, p.t, _, 2, .ref p.no, rfl, rfl, SqT.of d1, rfl, .ref p.t, rfl, p.t, _, 3, .ref p.ca, rfl, rfl, SqT.of d1, rfl, by show 4 ≤ sizeLine; decide, fun tn ntn => ?_⟩
        have s3 := same_new ntn (o := .tup [.int p.h, .ref ti, .ref p.no, .ref p.ca])
        have htn : (upd H2 tn (.tup [.int p.h, .ref ti, .ref p.no, .ref p.ca])) tn = some (.tup [.int p.h, .ref ti, .ref p.no, .ref p.ca]) := upd_same
        generalize upd H2 tn (.tup [.int p.h, .ref ti, .ref p.no, .ref p.ca]) = H3 at s3 htn ⊢
        have s23 := s2.trans s3
        have hO3 := s23 _ _ hO1
        have kp : Kp H3 (upd H3 O (.lst (pv' qs ++ [.ref tn]))) := Kp.but hO3 (fun z => z) upd_but
        refine ⟨O, _, .ref tn, rfl, rfl, hO3, (by rw [pv_len]; exact small1000 (by omega)), _, _, qs ++ [⟨tn, p.h, ti, tw, some n, p.no, p.notes, p.ca, p.calls⟩], rfl, same_at (sm1.trans s23) nO, by rw [upd_same]; exact congrArg (fun x => some (HO.lst x)) (pv_snoc (p := ⟨tn, p.h, ti, tw, some n, p.no, p.notes, p.ca, p.calls⟩)), fun z hz => ?_, by rw [List.length_append, hql1]; rfl, ?_⟩
        · rcases List.mem_append.mp hz with hz | hz
          · exact (((hq1 z hz).kp (Kp.of s23)).kp kp)
          · rw [List.mem_singleton.mp hz]
            exact ⟨PcT.kp (H := H3) ⟨htn, s3 _ _ hti, htw, s23 _ _ c4, c5, s23 _ _ c6, c7⟩ kp, ⟨o1, o2⟩, fun e => (nomatch e), fun _ => ⟨hbj, n, rfl, n0, n1⟩⟩
        · rw [figs_snoc, List.length_append, hqf1, List.take_add_one, ep]
          show _ = (figs (pcs (bs.take i) ++ (b.ps.take j ++ [p]))).length
          rw [← List.append_assoc, figs_snoc, List.length_append]
      · rintro σ H1 ⟨y3, y4, qs, rfl, sm1, hO1, hq1, hql1, hqf1⟩
        rw [pv_len] at hql1 hqf1
        rw [List.take_length] at hqf1
        exact ⟨some (.ref b.t), y3, y4, qs, rfl, sm1, hO1, hq1, by rw [List.length_append]; exact hql1, hqf1⟩
    · rintro σ H1 ⟨y2, y3, y4, qs, rfl, s1, hO1, hq, hql, hqf⟩
      rw [bv_len, List.take_length] at hql hqf
      refine ⟨.ref O, rfl, .ref O, qs.length, rfl, .inl ⟨_, SqL.of hO1, (pv_len _).symm⟩, rfl, _, rfl, ite2 (fun h => ?_) (fun h => ?_)⟩
      · have h0 : qs.length = 0 := by have := V.int.inj (of_decide_eq_true h); omega
        have hq0 : qs = [] := List.length_eq_zero_iff.mp h0
        subst hq0
        refine ⟨Nat.zero_le _, fun L nL => q _ L [] (s1.trans (same_new nL)) (s1.free nL) upd_same (fun b hb => nomatch hb) (Nat.zero_le _) ?_ ?_ (fun b hb => nomatch hb)⟩
        · show 0 = (pcs bs).length; rw [← hql]; rfl
        · show 0 = (figs (pcs bs)).length; rw [← hqf]; rfl
      · have hne : qs ≠ [] := fun e => h (by rw [e]; rfl)
        obtain ⟨rs, ql, rfl⟩ := last_split hne
        have hlq : (rs ++ [ql]).length = rs.length + 1 := by rw [List.length_append]; rfl
        have eP : pv' (rs ++ [ql]) = pv' rs ++ [.ref ql.t] := by unfold pv'; rw [List.map_append]; rfl
        obtain ⟨hqt, hqo⟩ := hq ql (List.mem_append_right _ List.mem_cons_self)
        refine ⟨.ref O, rfl, .inl ⟨rfl, _, SqL.of hO1⟩, O, _, .ref ql.t, rfl, rfl, hO1, by rw [eP, List.length_append]; show (_ ++ _)[(pv' rs).length + 1 - 1]? = _; rw [Nat.add_sub_cancel, List.getElem?_append_right (Nat.le_refl _), Nat.sub_self]; rfl, ?_⟩
        rw [eP, List.dropLast_concat]
        have kp1 : Kp H1 (upd H1 O (.lst (pv' rs))) := Kp.but hO1 (fun z => z) upd_but
        have s2 : Same H (upd H1 O (.lst (pv' rs))) := same_at s1 nO
        have hO2 : (upd H1 O (.lst (pv' rs))) O = some (.lst (pv' rs)) := upd_same
        generalize upd H1 O (.lst (pv' rs)) = H2 at kp1 s2 hO2 ⊢
        obtain ⟨c1, c2, c3, c4, c5, c6, c7⟩ := hqt.kp kp1
        refine ⟨.ref O, rfl, .inl ⟨rfl, _, SqL.of hO2⟩, .ref ql.t, rfl, ql.t, _, 0, .int ql.h, rfl, rfl, SqT.of c1, rfl, by show 1 ≤ sizeLine; decide, fun te nte => ?_⟩
        have s3 := same_new nte (o := .tup [.str (Str.ofString "end")])
        have hte : (upd H2 te (.tup [.str (Str.ofString "end")])) te = some (.tup [.str (Str.ofString "end")]) := upd_same
        generalize upd H2 te (.tup [.str (Str.ofString "end")]) = H3 at s3 hte ⊢
        have d1 := s3 _ _ c1
        refine ⟨.ref ql.t, rfl, ql.t, _, 2, .ref ql.no, rfl, rfl, SqT.of d1, rfl, .ref ql.t, rfl, ql.t, _, 3, .ref ql.ca, rfl, rfl, SqT.of d1, rfl, by show 4 ≤ sizeLine; decide, fun tl ntl => ?_⟩
        have s4 := same_new ntl (o := .tup [.int ql.h, .ref te, .ref ql.no, .ref ql.ca])
        have htl : (upd H3 tl (.tup [.int ql.h, .ref te, .ref ql.no, .ref ql.ca])) tl = some (.tup [.int ql.h, .ref te, .ref ql.no, .ref ql.ca]) := upd_same
        generalize upd H3 tl (.tup [.int ql.h, .ref te, .ref ql.no, .ref ql.ca]) = H4 at s4 htl ⊢
        have s34 := s3.trans s4
        have hO4 := s34 _ _ hO2
        have hrl : rs.length < 45 := by omega
        refine ⟨O, _, .ref tl, rfl, rfl, hO4, (by rw [pv_len]; exact small1000 (by omega)), ?_⟩
        have kp5 : Kp H4 (upd H4 O (.lst (pv' rs ++ [.ref tl]))) := Kp.but hO4 (fun z => z) upd_but
        have s5 : Same H (upd H4 O (.lst (pv' rs ++ [.ref tl]))) := same_at (s2.trans s34) nO
        have hO5 : (upd H4 O (.lst (pv' rs ++ [.ref tl]))) O = some (.lst (pv' (rs ++ [⟨tl, ql.h, te, Str.ofString "end", none, ql.no, ql.notes, ql.ca, ql.calls⟩]))) := by rw [upd_same]; exact congrArg (fun x => some (HO.lst x)) (pv_snoc (p := ⟨tl, ql.h, te, Str.ofString "end", none, ql.no, ql.notes, ql.ca, ql.calls⟩))
        have hlast : PcT (upd H4 O (.lst (pv' rs ++ [.ref tl]))) ⟨tl, ql.h, te, Str.ofString "end", none, ql.no, ql.notes, ql.ca, ql.calls⟩ := PcT.kp (H := H4) ⟨htl, s4 _ _ hte, by show Str.ofString "end" ∈ words; decide +kernel, s34 _ _ c4, c5, s34 _ _ c6, c7⟩ kp5
        have hrs : ∀ z ∈ rs, MidOk (upd H4 O (.lst (pv' rs ++ [.ref tl]))) wide z := fun z hz => (((hq z (List.mem_append_left _ hz)).kp kp1).kp (Kp.of s34)).kp kp5
        generalize upd H4 O (.lst (pv' rs ++ [.ref tl])) = H5 at kp5 s5 hO5 hlast hrs ⊢
        have hb0 : ∃ b0, bs[0]? = some b0 := by
          cases bs with
          | nil => rw [hlq] at hql; exact absurd hql (by show ¬ rs.length + 1 = 0; omega)
          | cons b bs => exact ⟨b, rfl⟩
        obtain ⟨b0, eb0⟩ := hb0
        have hb0m := List.mem_of_getElem? eb0
        obtain ⟨g1, g2, g3, g4⟩ := (hb b0 hb0m).kp (Kp.of s5)
        obtain ⟨l1, l2, l3⟩ := hok b0 hb0m
        refine ⟨.ref a, rfl, a, _, 0, .ref b0.t, rfl, rfl, SqL.of (s5 _ _ ha), (by show atI _ ((0 : Nat) : Int) = _; exact atI_nat (by unfold bv; rw [List.getElem?_map, eb0]; rfl)), _, rfl, b0.t, _, rfl, g1, fun H6 t4 s6 ht4 => ?_⟩
        have ht4 : H6 t4 = some (.tup [.int b0.a, .int b0.b, .int b0.c, .bl b0.f]) := by
          rw [ht4]; exact congrArg (fun x => some (HO.tup x)) (cutV_to (m := 4) _ (by show 4 ≤ 5; decide))
        refine ⟨.ref O, rfl, O, _, rfl, .inl ⟨SqL.of (s6 _ _ hO5), fun pt npt => ?_⟩⟩
        have s7 := same_new npt (o := .tup (pv' (rs ++ [⟨tl, ql.h, te, Str.ofString "end", none, ql.no, ql.notes, ql.ca, ql.calls⟩])))
        have hpt : (upd H6 pt (.tup (pv' (rs ++ [⟨tl, ql.h, te, Str.ofString "end", none, ql.no, ql.notes, ql.ca, ql.calls⟩])))) pt = some (.tup (pv' (rs ++ [⟨tl, ql.h, te, Str.ofString "end", none, ql.no, ql.notes, ql.ca, ql.calls⟩]))) := upd_same
        generalize upd H6 pt (.tup (pv' (rs ++ [⟨tl, ql.h, te, Str.ofString "end", none, ql.no, ql.notes, ql.ca, ql.calls⟩]))) = H7 at s7 hpt ⊢
        refine ⟨by show 1 ≤ sizeLine; decide, fun t1 nt1 => ?_⟩
        have s8 := same_new nt1 (o := .tup [.ref pt])
        have ht1 : (upd H7 t1 (.tup [.ref pt])) t1 = some (.tup [.ref pt]) := upd_same
        generalize upd H7 t1 (.tup [.ref pt]) = H8 at s8 ht1 ⊢
        refine ⟨t4, t1, _, _, rfl, rfl, SqT.of (s8 _ _ (s7 _ _ ht4)), SqT.of ht1, by show 5 ≤ sizeLine; decide, (fun h => nomatch h), (fun _ h => nomatch h), fun _ _ t nt => ?_⟩
        have s9 := same_new nt (o := .tup ([.int b0.a, .int b0.b, .int b0.c, .bl b0.f] ++ [.ref pt]))
        have ht : (upd H8 t (.tup ([.int b0.a, .int b0.b, .int b0.c, .bl b0.f] ++ [.ref pt]))) t = some (.tup [.int b0.a, .int b0.b, .int b0.c, .bl b0.f, .ref pt]) := upd_same
        generalize upd H8 t (.tup ([.int b0.a, .int b0.b, .int b0.c, .bl b0.f] ++ [.ref pt])) = H9 at s9 ht ⊢
        refine ⟨by show 1 ≤ sizeLine; decide, fun L nL => ?_⟩
        have s10 := same_new nL (o := .lst [.ref t])
        have s510 := s6.trans (s7.trans (s8.trans (s9.trans s10)))
        have sA := s5.trans s510
        have eps : pcs [(⟨t, b0.a, b0.b, b0.c, b0.f, pt, rs ++ [⟨tl, ql.h, te, Str.ofString "end", none, ql.no, ql.notes, ql.ca, ql.calls⟩]⟩ : Bk)] = rs ++ [⟨tl, ql.h, te, Str.ofString "end", none, ql.no, ql.notes, ql.ca, ql.calls⟩] := by unfold pcs; simp
        refine q _ L [⟨t, b0.a, b0.b, b0.c, b0.f, pt, rs ++ [⟨tl, ql.h, te, Str.ofString "end", none, ql.no, ql.notes, ql.ca, ql.calls⟩]⟩] sA (s5.free ((s6.trans (s7.trans (s8.trans s9))).free nL)) upd_same (fun x hx => ?_) (Nat.le_refl 1) ?_ ?_ (fun x hx => ?_)
        · rw [List.mem_singleton.mp hx]
          refine ⟨s10 _ _ ht, (s8.trans (s9.trans s10)) _ _ hpt, by show (rs ++ [_]).length ≤ 50; rw [List.length_append]; show rs.length + 1 ≤ 50; omega, fun z hz => ?_⟩
          rcases List.mem_append.mp hz with hz | hz
          · exact (hrs z hz).1.kp (Kp.of s510)
          · rw [List.mem_singleton.mp hz]; exact hlast.kp (Kp.of s510)
        · rw [eps, ← hql, List.length_append, List.length_append]; rfl
        · rw [eps, ← hqf, figs_snoc, figs_snoc]
        · rw [List.mem_singleton.mp hx]
          refine ⟨by show 1 ≤ (rs ++ [_]).length; rw [List.length_append]; exact Nat.le_add_left _ _, l2, fun j z hj => ?_⟩
          have hj : (rs ++ [_])[j]? = some z := hj
          show PieceOk (decide (j + 1 = (rs ++ [_]).length)) wide z
          rw [List.length_append]
          show PieceOk (decide (j + 1 = rs.length + 1)) wide z
          by_cases hjl : j < rs.length
          · rw [List.getElem?_append_left hjl] at hj
            rw [decide_eq_false (by omega : ¬ j + 1 = rs.length + 1)]
            exact (hrs z (List.mem_of_getElem? hj)).2
          · rw [List.getElem?_append_right (by omega)] at hj
            have ej : j - rs.length = 0 := by
              have := (List.getElem?_eq_some_iff.mp hj).1
              rw [List.length_singleton] at this
              omega
            rw [ej] at hj; cases hj
            rw [decide_eq_true (by omega : j + 1 = rs.length + 1)]
            exact ⟨hqo.1, fun _ => ⟨rfl, rfl⟩, fun e => nomatch e⟩
end
end K37

set_option maxRecDepth 100000
set_option maxHeartbeats 8000000
namespace K37.Bo
open PySem PySem.Spec PyProof.Rows L2
abbrev sInit : Stmt := K37.sBInit
abbrev sEq : Stmt := K37.sBEq
/-! ### values, due -/
def names : List Str := [Str.ofString "room", Str.ofString "height", Str.ofString "joint", Str.ofString "over", Str.ofString "keep", Str.ofString "orphan", Str.ofString "widow", Str.ofString "wait", Str.ofString "columns", Str.ofString "gutter", Str.ofString "full"]
def los : List Int := [1, 1, 0, 0, 0, 0, 0, 0, 1, 0]
def his : List Int := [2000, 2000, 2000, 2000, 2000, 2000, 2000, 2000, 4, 40]
/-- a value of any kind the law draws -/
def OddV (H : Hp) (v : V) : Prop := (∃ i, v = .int i) ∨ (∃ b, v = .bl b) ∨ v = .non ∨ (∃ z, v = .str z) ∨ ∃ (t : Addr) (xs : List V), v = .ref t ∧ H t = some (.tup xs)
theorem OddV.same {H H' : Hp} {v : V} (h : OddV H v) (s : Same H H') : OddV H' v := by
  rcases h with h | h | h | h | ⟨t, xs, e, h⟩
  · exact .inl h
  · exact .inr (.inl h)
  · exact .inr (.inr (.inl h))
  · exact .inr (.inr (.inr (.inl h)))
  · exact .inr (.inr (.inr (.inr ⟨t, xs, e, s _ _ h⟩)))
def isNum : V → Bool
  | .int _ => true
  | _ => false
def fitsB (k : Nat) : V → Bool
  | .int i => decide (k < 10) && (decide (los.getD k 0 ≤ i) && decide (i ≤ his.getD k 0))
  | .bl _ => decide (k = 10)
  | _ => false
/-- the first that doesn't fit, from k on -/
def badF : Nat → List V → Option Nat
  | _, [] => none
  | k, v :: vs => if fitsB k v then badF (k + 1) vs else some k
theorem badF_at {vs : List V} {i : Nat} {v : V} (h : vs[i]? = some v) : badF i (vs.drop i) = if fitsB i v then badF (i + 1) (vs.drop (i + 1)) else some i := by
  have hl := List.getElem?_eq_some_iff.mp h
  obtain ⟨h1, h2⟩ := hl
  rw [List.drop_eq_getElem_cons h1, h2]; rfl
/-- values that all fit -/
def Good (xs : List V) : Prop := xs.length = 11 ∧ ∀ k v, xs[k]? = some v → fitsB k v = true
theorem fits_odd {H : Hp} {k : Nat} {v : V} (h : fitsB k v = true) : OddV H v := by
  cases v with
  | int i => exact .inl ⟨i, rfl⟩
  | bl b => exact .inr (.inl ⟨b, rfl⟩)
  | _ => cases h
theorem Good.odd {H : Hp} {xs : List V} (h : Good xs) : ∀ x ∈ xs, OddV H x := fun x hx => by
  obtain ⟨k, hk⟩ := List.mem_iff_getElem?.mp hx
  exact fits_odd (h.2 k x hk)
theorem Good.nobad {xs : List V} (h : Good xs) : badF 0 xs = none := by
  have go : ∀ n k, k + n = 11 → badF k (xs.drop k) = none := by
    intro n
    induction n with
    | zero =>
      intro k hk
      rw [show xs.drop k = [] from List.drop_eq_nil_of_le (by rw [h.1]; omega)]; rfl
    | succ n ih =>
      intro k hk
      obtain ⟨v, hv⟩ : ∃ v, xs[k]? = some v := ⟨_, List.getElem?_eq_getElem (by rw [h.1]; omega)⟩
      rw [badF_at hv, h.2 k v hv, if_pos rfl]
      exact ih (k + 1) (by omega)
  exact go 11 0 rfl
theorem badF_good {xs : List V} (hl : xs.length = 11) (hb : badF 0 xs = none) : Good xs := by
  have go : ∀ n k, k + n = 11 → badF k (xs.drop k) = none → ∀ i v, k ≤ i → xs[i]? = some v → fitsB i v = true := by
    intro n
    induction n with
    | zero =>
      intro k hk _ i v hi hv
      have := (List.getElem?_eq_some_iff.mp hv).1
      omega
    | succ n ih =>
      intro k hk hbk i v hi hv
      obtain ⟨u, hu⟩ : ∃ u, xs[k]? = some u := ⟨_, List.getElem?_eq_getElem (by omega)⟩
      rw [badF_at hu] at hbk
      cases hf : fitsB k u with
      | false => rw [hf, if_neg Bool.false_ne_true] at hbk; cases hbk
      | true =>
        rw [hf, if_pos rfl] at hbk
        by_cases e : k = i
        · subst e
          rw [hu] at hv; cases hv; exact hf
        · exact ih (k + 1) (by omega) hbk i v (by omega) hv
  exact ⟨hl, fun k v h => go 11 0 rfl hb k v (Nat.zero_le _) h⟩
end K37.Bo

set_option maxRecDepth 100000
set_option maxHeartbeats 8000000
namespace K37.Bo
open PySem PySem.Spec PyProof.Rows L2
/-- NUMBER_RANGES -/
structure Num (K : PySem.W.Frag) (w : World) (ND : Addr) : Prop where
  kd : ∃ es n, KDict K w ND es n
  at_ : ∀ k, k < 10 → ∃ (a : Addr) (o : Obj) (its : Array Value) (n : Nat), PySem.W.nsIn K ND (names.getD k (Str.ofString "")) = some (some (.ref a)) ∧ K.lookup a = some o ∧ o.cls = .type "tuple" ∧ o.data = .seq its n ∧ its.size ≤ sizeLine ∧ Vals [V.int (los.getD k 0), .int (his.getD k 0)] its.toList
  no : PySem.W.nsIn K ND (names.getD 10 (Str.ofString "")) = some none
section
variable {P : Program} {w : World} {K : PySem.W.Frag} {mg : Str → Option Value} {base : Heap}
def spCheck (CB : Addr) : Sp := fun vs H Q E => ∃ (k : Nat) (v : V), vs = [.str (names.getD k (Str.ofString "")), v] ∧ k ≤ 10 ∧ OddV H v ∧
  (fitsB k v = false → ∀ d, H d = none → E (.ref CB) (some d) (upd H d (.xd [("field", .str (names.getD k (Str.ofString "")))]))) ∧ (fitsB k v = true → Q .non H)
abbrev pCk : List Str := ["name", "value"]
abbrev nCk : List Str := ["name", "value", "least", "greatest"]
theorem scCheck : FnScope nCk pCk (defScope sCheck) := ⟨rfl, rfl, rfl, by decide +kernel, rfl, by decide +kernel, by decide +kernel⟩
theorem ok_check {CB fB ND f : Addr} {fdB fd : FuncData} (B : Blt mg) (NT : BbE K mg CB fB fdB) (N : Num K w ND) (gN : mg "NUMBER_RANGES" = some (.ref ND)) (F : Fun K "_check_field" "_check_field" sCheck f fd) : FnOk P w K mg base (L2N.CX P w) 3 f fd pCk (spCheck CB) := by
  have GT : FnOk P w K mg base CX0 1 fB fdB ["self", "field"] (spEI K CB "field") := ok_BbI NT.F
  obtain ⟨es, n, D⟩ := N.kd
  refine RN.okXN F scCheck (fun vs H Q E h => ?_) (fun cdv A0 outer s H vs Q E hr h => ?_)
  · obtain ⟨k, v, rfl, _⟩ := h; rfl
  · obtain ⟨k, v, rfl, hk, hv, qe, q⟩ := h
    have hr2 : Room 2 _ := hr
    refine ⟨_, (pss_one (ps_if (pt_cmpR (op_notIn_kd D) (pv 0) (pe_glob (v := .ref ND) (by rfl) gN rfl) (by with_unfolding_all rfl))
      (pss_one (ps_if (pt_not (pt_val (pe_callB call_isi (by rfl) B.isi (by decide +kernel) (pa_cons (pv 1) (pa_cons (pe_bltn (v := .ty "bool") (by rfl) B.bool (by decide +kernel) rfl) pa_nil)))))
       (pss_one (L2N.ps_raise rfl (L2N.takes_of rfl rfl rfl rfl) (RN.pmk_oexN NT.oex NT.iC NT.tI GT hr2 NT.b .nil pass0 (by rfl) NT.gC (pa_cons (pv 0) pa_nil))))
       pss_nil))
      (pss_one (ps_if (PW.pt (pw_or (pt_val (pe_callB call_isi (by rfl) B.isi (by decide +kernel) (pa_cons (pv 1) (pa_cons (pe_bltn (v := .ty "bool") (by rfl) B.bool (by decide +kernel) rfl) pa_nil)))) (pw_or1 (pt_not (pt_val (pe_callB call_isi (by rfl) B.isi (by decide +kernel) (pa_cons (pv 1) (pa_cons (pe_bltn (v := .ty "int") (by rfl) B.int (by decide +kernel) rfl) pa_nil))))))))
       (pss_one (L2N.ps_raise rfl (L2N.takes_of rfl rfl rfl rfl) (RN.pmk_oexN NT.oex NT.iC NT.tI GT hr2 NT.b .nil pass0 (by rfl) NT.gC (pa_cons (pv 0) pa_nil))))
       (pss_cons (ps_asg (pe_ix ix_kdict (pe_glob (v := .ref ND) (by rfl) gN rfl) (pv 0) (fun _ _ => rfl)) (pg_tup rfl (pgs_cons (pg_name (i := 2) scCheck.nd rfl (.inl rfl)) (pgs_cons (pg_name (i := 3) scCheck.nd rfl (.inl rfl)) pgs_nil))))
        (pss_one (ps_if (pt_not (pt_chain op_le op_le (pv 2) (pv 1) (pv 3)))
        (pss_one (L2N.ps_raise rfl (L2N.takes_of rfl rfl rfl rfl) (RN.pmk_oexN NT.oex NT.iC NT.tI GT hr2 NT.b .nil pass0 (by rfl) NT.gC (pa_cons (pv 0) pa_nil))))
        pss_nil))))))), ?_⟩
    by_cases h10 : k = 10
    · subst h10
      refine ⟨.str (names.getD 10 (Str.ofString "")), rfl, _, none, rfl, rfl, N.no, _, rfl, iteT ?_⟩
      rcases hv with ⟨i, rfl⟩ | ⟨b, rfl⟩ | rfl | ⟨z, rfl⟩ | ⟨t, xs, rfl, ht⟩
      · exact ⟨.int i, rfl, .int i, .ty "bool", .type "int", .type "bool", false, rfl, .ty "bool", .base (.int i), kit_ty (by decide +kernel), _, rfl, iteT ⟨.str (names.getD 10 (Str.ofString "")), rfl, raise_err NT.oex NT.fp fun d hd => qe rfl d hd⟩⟩
      · exact ⟨.bl b, rfl, .bl b, .ty "bool", .type "bool", .type "bool", true, rfl, .ty "bool", .base (.bl b), kit_ty (by decide +kernel), _, rfl, iteF (q rfl)⟩
      · exact ⟨.non, rfl, .non, .ty "bool", .type "NoneType", .type "bool", false, rfl, .ty "bool", .base .non, kit_ty (by decide +kernel), _, rfl, iteT ⟨.str (names.getD 10 (Str.ofString "")), rfl, raise_err NT.oex NT.fp fun d hd => qe rfl d hd⟩⟩
      · exact ⟨.str z, rfl, .str z, .ty "bool", .type "str", .type "bool", false, rfl, .ty "bool", ty_txt, kit_ty (by decide +kernel), _, rfl, iteT ⟨.str (names.getD 10 (Str.ofString "")), rfl, raise_err NT.oex NT.fp fun d hd => qe rfl d hd⟩⟩
      · exact ⟨.ref t, rfl, .ref t, .ty "bool", .type "tuple", .type "bool", false, rfl, .ty "bool", ty_tup ht, kit_ty (by decide +kernel), _, rfl, iteT ⟨.str (names.getD 10 (Str.ofString "")), rfl, raise_err NT.oex NT.fp fun d hd => qe rfl d hd⟩⟩
    · have h10' : k < 10 := by omega
      obtain ⟨a, o, its, m, e1, e2, e3, e4, e5, e6⟩ := N.at_ k h10'
      refine ⟨.str (names.getD k (Str.ofString "")), rfl, _, some (.ref a), rfl, rfl, e1, _, rfl, iteF ?_⟩
      rcases hv with ⟨i, rfl⟩ | ⟨b, rfl⟩ | rfl | ⟨z, rfl⟩ | ⟨t, xs, rfl, ht⟩
      · refine ⟨.int i, rfl, .int i, .ty "bool", .type "int", .type "bool", false, rfl, .ty "bool", .base (.int i), kit_ty (by decide +kernel), _, rfl, iteF ⟨.int i, rfl, .int i, .ty "int", .type "int", .type "int", true, rfl, .ty "int", .base (.int i), kit_ty (by decide +kernel), _, rfl, iteF ?_⟩⟩
        refine ⟨.str (names.getD k (Str.ofString "")), rfl, ND, _, .ref a, rfl, rfl, ⟨es, n, _, D.at_, D.lit, e1, rfl⟩, a, _, rfl, .inr ⟨o, its, m, e2, e3, e4, e5, e6⟩, rfl, _, _, rfl, _, _, rfl, rfl, ?_⟩
        have ef : fitsB k (.int i) = (decide (los.getD k 0 ≤ i) && decide (i ≤ his.getD k 0)) := by
          show (decide (k < 10) && (decide (los.getD k 0 ≤ i) && decide (i ≤ his.getD k 0))) = _
          rw [decide_eq_true h10', Bool.true_and]
        rw [ef] at qe q
        refine ⟨.int (los.getD k 0), rfl, .int i, rfl, _, _, rfl, rfl, _, rfl, ite2 (fun h1 => ?_) (fun h1 => ?_)⟩
        · rw [h1, Bool.true_and] at qe q
          refine ⟨.int (his.getD k 0), rfl, _, _, rfl, rfl, _, rfl, ite2 (fun h2 => ?_) (fun h2 => ?_)⟩
          · exact ⟨.str (names.getD k (Str.ofString "")), rfl, raise_err NT.oex NT.fp fun d hd => qe (by simpa using h2) d hd⟩
          · exact q (by simpa using h2)
        · rw [Bool.eq_false_iff.mpr h1, Bool.false_and] at qe q
          exact ⟨_, rfl, iteT ⟨.str (names.getD k (Str.ofString "")), rfl, raise_err NT.oex NT.fp fun d hd => qe rfl d hd⟩⟩
      · have ef : fitsB k (.bl b) = false := decide_eq_false h10
        exact ⟨.bl b, rfl, .bl b, .ty "bool", .type "bool", .type "bool", true, rfl, .ty "bool", .base (.bl b), kit_ty (by decide +kernel), _, rfl, iteT ⟨.str (names.getD k (Str.ofString "")), rfl, raise_err NT.oex NT.fp fun d hd => qe ef d hd⟩⟩
      · exact ⟨.non, rfl, .non, .ty "bool", .type "NoneType", .type "bool", false, rfl, .ty "bool", .base .non, kit_ty (by decide +kernel), _, rfl, iteF ⟨.non, rfl, .non, .ty "int", .type "NoneType", .type "int", false, rfl, .ty "int", .base .non, kit_ty (by decide +kernel), _, rfl, iteT ⟨.str (names.getD k (Str.ofString "")), rfl, raise_err NT.oex NT.fp fun d hd => qe rfl d hd⟩⟩⟩
      · exact ⟨.str z, rfl, .str z, .ty "bool", .type "str", .type "bool", false, rfl, .ty "bool", ty_txt, kit_ty (by decide +kernel), _, rfl, iteF ⟨.str z, rfl, .str z, .ty "int", .type "str", .type "int", false, rfl, .ty "int", ty_txt, kit_ty (by decide +kernel), _, rfl, iteT ⟨.str (names.getD k (Str.ofString "")), rfl, raise_err NT.oex NT.fp fun d hd => qe rfl d hd⟩⟩⟩
      · exact ⟨.ref t, rfl, .ref t, .ty "bool", .type "tuple", .type "bool", false, rfl, .ty "bool", ty_tup ht, kit_ty (by decide +kernel), _, rfl, iteF ⟨.ref t, rfl, .ref t, .ty "int", .type "tuple", .type "int", false, rfl, .ty "int", ty_tup ht, kit_ty (by decide +kernel), _, rfl, iteT ⟨.str (names.getD k (Str.ofString "")), rfl, raise_err NT.oex NT.fp fun d hd => qe rfl d hd⟩⟩⟩
end
end K37.Bo

set_option maxRecDepth 100000
set_option maxHeartbeats 8000000
namespace K37.Bo
open PySem PySem.Spec PyProof.Rows L2
abbrev pBk : List Str := ["self", "room", "height", "joint", "over", "keep", "orphan", "widow", "wait", "columns", "gutter", "full"]
abbrev nBk : List Str := ["self", "room", "height", "joint", "over", "keep", "orphan", "widow", "wait", "columns", "gutter", "full", "worths", "name", "value"]
def fsB (xs : List V) (w : Addr) : List (Str × V) := names.zip xs ++ [((Str.ofString "_worths"), V.ref w)]
def BookA (C : Addr) (H : Hp) (p : Addr) (xs : List V) : Prop := ∃ dx w, H p = some (.ins C dx (fsB xs w)) ∧ H w = some (.tup xs)
theorem BookA.same {C : Addr} {H H' : Hp} {p : Addr} {xs : List V} (h : BookA C H p xs) (s : Same H H') : BookA C H' p xs := let ⟨dx, w, h1, h2⟩ := h; ⟨dx, w, s _ _ h1, s _ _ h2⟩
structure Bok (K : PySem.W.Frag) (mg : Str → Option Value) (C FT : Addr) (mc : Value) (u : Value) : Prop where
  cl : Cls K C
  n_room : NoAttr K C "room"
  n_height : NoAttr K C "height"
  n_joint : NoAttr K C "joint"
  n_over : NoAttr K C "over"
  n_keep : NoAttr K C "keep"
  n_orphan : NoAttr K C "orphan"
  n_widow : NoAttr K C "widow"
  n_wait : NoAttr K C "wait"
  n_columns : NoAttr K C "columns"
  n_gutter : NoAttr K C "gutter"
  n_full : NoAttr K C "full"
  n_worths : NoAttr K C "_worths"
  mgC : mg "Book" = some (.ref C)
  rd : ClX.CRead K C mc
  fl : ClX.CVal K C mc "FIELDS" (.ref FT) u
  ft : ∀ H, SqT K H FT (names.map V.str)
section
variable {P : Program} {w : World} {K : PySem.W.Frag} {mg : Str → Option Value} {base : Heap}
theorem scInit : FnScope nBk pBk (defScope sInit) := ⟨rfl, rfl, rfl, by decide +kernel, rfl, by decide +kernel, by decide +kernel⟩
abbrev InitD (K : PySem.W.Frag) (f : Addr) (fd : FuncData) : Prop := FunD K "__init__" "Book.__init__" (defArgs sInit) (defBody sInit) (defScope sInit) [] [("joint", .int 0), ("over", .int 100), ("keep", .int 0), ("orphan", .int 0), ("widow", .int 0), ("wait", .int 0), ("columns", .int 1), ("gutter", .int 1), ("full", .bl false)] f fd
def spInit (C CB : Addr) : Sp := fun vs H Q E => ∃ (p dx : Addr) (x0 x1 x2 x3 x4 x5 x6 x7 x8 x9 x10 : V), vs = [.ref p, x0, x1, x2, x3, x4, x5, x6, x7, x8, x9, x10] ∧ H p = some (.ins C dx []) ∧ (∀ x ∈ [x0, x1, x2, x3, x4, x5, x6, x7, x8, x9, x10], OddV H x) ∧
  (∀ k, badF 0 [x0, x1, x2, x3, x4, x5, x6, x7, x8, x9, x10] = some k → ∀ H1 d, (∀ b o, b ≠ p → H b = some o → H1 b = some o) → H1 d = none → E (.ref CB) (some d) (upd H1 d (.xd [("field", .str (names.getD k (Str.ofString "")))]))) ∧
  (badF 0 [x0, x1, x2, x3, x4, x5, x6, x7, x8, x9, x10] = none → ∀ H', (∀ b o, b ≠ p → H b = some o → H' b = some o) → BookA C H' p [x0, x1, x2, x3, x4, x5, x6, x7, x8, x9, x10] → Q .non H')
theorem ok_init {C CB FT f f_check : Addr} {mc u : Value} {fd fd_check : FuncData} (B : Blt mg) (T : Bok K mg C FT mc u) (F : InitD K f fd)
    (F_check : Fun K "_check_field" "_check_field" sCheck f_check fd_check) (b_check : Binds K fd_check pCk []) (g_check : mg "_check_field" = some (.ref f_check)) (G_check : FnOk P w K mg base (L2N.CX P w) 3 f_check fd_check pCk (spCheck CB)) : FnOk P w K mg base (L2N.CX P w) 4 f fd pBk (spInit C CB) := by
  refine F.ok scInit (fun vs H Q E h => ?_) (fun cdv A0 outer s H vs Q E hr h => ?_)
  · obtain ⟨p, dx, x0, x1, x2, x3, x4, x5, x6, x7, x8, x9, x10, rfl, _⟩ := h; rfl
  · obtain ⟨p, dx, x0, x1, x2, x3, x4, x5, x6, x7, x8, x9, x10, rfl, hp, ho, qe, q⟩ := h
    refine ⟨_, (pss_cons (ps_set (i := 12) scInit.nd rfl (.inl rfl) (pe_tup (pa_cons (pv 1) (pa_cons (pv 2) (pa_cons (pv 3) (pa_cons (pv 4) (pa_cons (pv 5) (pa_cons (pv 6) (pa_cons (pv 7) (pa_cons (pv 8) (pa_cons (pv 9) (pa_cons (pv 10) (pa_cons (pv 11) pa_nil)))))))))))))
      (pss_cons (ps_for (passes_of rfl) rfl (RZ.pi_zipA (by rfl) B.zip (pa_cons (ClX.pe_cval (pe_glob (v := .ref C) (by rfl) T.mgC rfl)) (pa_cons (pv 12) pa_nil))) (pg_tup rfl (pgs_cons (pg_name (i := 13) scInit.nd rfl (.inl rfl)) (pgs_cons (pg_name (i := 14) scInit.nd rfl (.inl rfl)) pgs_nil)))
      (pss_one (ps_expr (pe_call G_check hr (by rfl) g_check F_check.kp b_check .nil (L2N.passes_call (L2N.takes_of rfl rfl rfl rfl) (fun _ _ _ _ h => h)) (pa_cons (pv 13) (pa_cons (pv 14) pa_nil))))))
      (pss_cons (ps_fld (pv 0) (pv 1) rfl)
      (pss_cons (ps_fld (pv 0) (pv 2) rfl)
      (pss_cons (ps_fld (pv 0) (pv 3) rfl)
      (pss_cons (ps_fld (pv 0) (pv 4) rfl)
      (pss_cons (ps_fld (pv 0) (pv 5) rfl)
      (pss_cons (ps_fld (pv 0) (pv 6) rfl)
      (pss_cons (ps_fld (pv 0) (pv 7) rfl)
      (pss_cons (ps_fld (pv 0) (pv 8) rfl)
      (pss_cons (ps_fld (pv 0) (pv 9) rfl)
      (pss_cons (ps_fld (pv 0) (pv 10) rfl)
      (pss_cons (ps_fld (pv 0) (pv 11) rfl)
      (pss_one (ps_fld (pv 0) (pv 12) rfl))))))))))))))), ?_⟩
    refine ⟨x0, rfl, x1, rfl, x2, rfl, x3, rfl, x4, rfl, x5, rfl, x6, rfl, x7, rfl, x8, rfl, x9, rfl, x10, rfl, by show 11 ≤ sizeLine; decide, fun w0 nw => ?_⟩
    have s1 := same_new nw (o := .tup [x0, x1, x2, x3, x4, x5, x6, x7, x8, x9, x10])
    have hw : (upd H w0 (.tup [x0, x1, x2, x3, x4, x5, x6, x7, x8, x9, x10])) w0 = some (.tup [x0, x1, x2, x3, x4, x5, x6, x7, x8, x9, x10]) := upd_same
    generalize upd H w0 (.tup [x0, x1, x2, x3, x4, x5, x6, x7, x8, x9, x10]) = H1 at s1 hw ⊢
    refine ⟨C, mc, .ref FT, u, rfl, T.rd, T.fl, .ref w0, rfl, FT, w0, names.map V.str, [x0, x1, x2, x3, x4, x5, x6, x7, x8, x9, x10], rfl, .inr ⟨T.ft H1, SqT.of hw, ?_⟩⟩
    refine RZ.for_zipT (K := K) (a := FT) (b := w0) (xs := names.map V.str) (ys := [x0, x1, x2, x3, x4, x5, x6, x7, x8, x9, x10]) rfl (fun i σ H' => ∃ y13 y14 : Option V, σ = [some (.ref p), some x0, some x1, some x2, some x3, some x4, some x5, some x6, some x7, some x8, some x9, some x10, some (.ref w0), y13, y14] ∧ Same H1 H' ∧ badF 0 [x0, x1, x2, x3, x4, x5, x6, x7, x8, x9, x10] = badF i ([x0, x1, x2, x3, x4, x5, x6, x7, x8, x9, x10].drop i)) ⟨none, none, rfl, Same.refl _, rfl⟩ (fun i σ H' ⟨_, _, _, sm, _⟩ => ⟨T.ft H', SqT.of (sm _ _ hw)⟩) ?_ ?_
    · rintro i x y T0 σ H2 hx hy ⟨y13, y14, rfl, sm, hb⟩ nT
      rw [List.getElem?_map] at hx
      obtain ⟨nm, hn, rfl⟩ := Option.map_eq_some_iff.mp hx
      have hi := (List.getElem?_eq_some_iff.mp hn).1
      have hi' : i ≤ 10 := by have : names.length = 11 := rfl; omega
      have enm : nm = names.getD i (Str.ofString "") := by rw [List.getD_eq_getElem?_getD, hn]; rfl
      rw [badF_at hy] at hb
      have sT := same_new nT (o := .tup [.str nm, y])
      have s12 := s1.trans (sm.trans sT)
      refine ⟨T0, _, rfl, SqT.of upd_same, rfl, _, _, rfl, _, _, rfl, rfl, ?_⟩
      rw [enm] at sT s12 ⊢
      refine ⟨.str _, rfl, y, rfl, i, y, rfl, hi', (ho y (List.mem_of_getElem? hy)).same s12, fun hf d hd => ?_, fun hf => ?_⟩
      · rw [hf, if_neg Bool.false_ne_true] at hb
        exact qe i hb _ d (fun b o _ e => s12 _ _ e) hd
      · rw [hf, if_pos rfl] at hb
        exact ⟨_, _, rfl, sm.trans sT, hb⟩
    · rintro σ H2 ⟨y13, y14, rfl, sm, hb⟩
      have hb : badF 0 [x0, x1, x2, x3, x4, x5, x6, x7, x8, x9, x10] = none := hb
      have hp2 := sm _ _ (s1 _ _ hp)
      have hw2 := sm _ _ hw
      have k2 : ∀ b o, b ≠ p → H b = some o → H2 b = some o := fun b o _ e => sm _ _ (s1 _ _ e)
      refine ⟨x0, rfl, .ref p, rfl, p, C, dx, [], rfl, hp2, T.cl, T.n_room, (by show 0 < 1000; decide), ?_⟩
      have npw : w0 ≠ p := ne_of hw2 hp2 (fun z => nomatch z)
      have k2' : ∀ b o, b ≠ p → H2 b = some o → (upd H2 p (.ins C dx (putF "room" x0 []))) b = some o := fun b o h e => by rw [upd_ne h]; exact e
      have hp2 : (upd H2 p (.ins C dx (putF "room" x0 []))) p = some (.ins C dx [("room", x0)]) := upd_same
      generalize upd H2 p (.ins C dx (putF "room" x0 [])) = J0 at k2' hp2 ⊢
      have hw2 := k2' _ _ npw hw2
      have k2 := fun b o (hne : b ≠ p) (e : H b = some o) => k2' b o hne (k2 b o hne e)
      refine ⟨x1, rfl, .ref p, rfl, p, C, dx, [("room", x0)], rfl, hp2, T.cl, T.n_height, (by show 1 < 1000; decide), ?_⟩
      have npw : w0 ≠ p := ne_of hw2 hp2 (fun z => nomatch z)
      have k2' : ∀ b o, b ≠ p → J0 b = some o → (upd J0 p (.ins C dx (putF "height" x1 [("room", x0)]))) b = some o := fun b o h e => by rw [upd_ne h]; exact e
      have hp2 : (upd J0 p (.ins C dx (putF "height" x1 [("room", x0)]))) p = some (.ins C dx [("room", x0), ("height", x1)]) := upd_same
      generalize upd J0 p (.ins C dx (putF "height" x1 [("room", x0)])) = J1 at k2' hp2 ⊢
      have hw2 := k2' _ _ npw hw2
      have k2 := fun b o (hne : b ≠ p) (e : H b = some o) => k2' b o hne (k2 b o hne e)
      refine ⟨x2, rfl, .ref p, rfl, p, C, dx, [("room", x0), ("height", x1)], rfl, hp2, T.cl, T.n_joint, (by show 2 < 1000; decide), ?_⟩
      have npw : w0 ≠ p := ne_of hw2 hp2 (fun z => nomatch z)
      have k2' : ∀ b o, b ≠ p → J1 b = some o → (upd J1 p (.ins C dx (putF "joint" x2 [("room", x0), ("height", x1)]))) b = some o := fun b o h e => by rw [upd_ne h]; exact e
      have hp2 : (upd J1 p (.ins C dx (putF "joint" x2 [("room", x0), ("height", x1)]))) p = some (.ins C dx [("room", x0), ("height", x1), ("joint", x2)]) := upd_same
      generalize upd J1 p (.ins C dx (putF "joint" x2 [("room", x0), ("height", x1)])) = J2 at k2' hp2 ⊢
      have hw2 := k2' _ _ npw hw2
      have k2 := fun b o (hne : b ≠ p) (e : H b = some o) => k2' b o hne (k2 b o hne e)
      refine ⟨x3, rfl, .ref p, rfl, p, C, dx, [("room", x0), ("height", x1), ("joint", x2)], rfl, hp2, T.cl, T.n_over, (by show 3 < 1000; decide), ?_⟩
      have npw : w0 ≠ p := ne_of hw2 hp2 (fun z => nomatch z)
      have k2' : ∀ b o, b ≠ p → J2 b = some o → (upd J2 p (.ins C dx (putF "over" x3 [("room", x0), ("height", x1), ("joint", x2)]))) b = some o := fun b o h e => by rw [upd_ne h]; exact e
      have hp2 : (upd J2 p (.ins C dx (putF "over" x3 [("room", x0), ("height", x1), ("joint", x2)]))) p = some (.ins C dx [("room", x0), ("height", x1), ("joint", x2), ("over", x3)]) := upd_same
      generalize upd J2 p (.ins C dx (putF "over" x3 [("room", x0), ("height", x1), ("joint", x2)])) = J3 at k2' hp2 ⊢
      have hw2 := k2' _ _ npw hw2
      have k2 := fun b o (hne : b ≠ p) (e : H b = some o) => k2' b o hne (k2 b o hne e)
      refine ⟨x4, rfl, .ref p, rfl, p, C, dx, [("room", x0), ("height", x1), ("joint", x2), ("over", x3)], rfl, hp2, T.cl, T.n_keep, (by show 4 < 1000; decide), ?_⟩
      have npw : w0 ≠ p := ne_of hw2 hp2 (fun z => nomatch z)
      have k2' : ∀ b o, b ≠ p → J3 b = some o → (upd J3 p (.ins C dx (putF "keep" x4 [("room", x0), ("height", x1), ("joint", x2), ("over", x3)]))) b = some o := fun b o h e => by rw [upd_ne h]; exact e
      have hp2 : (upd J3 p (.ins C dx (putF "keep" x4 [("room", x0), ("height", x1), ("joint", x2), ("over", x3)]))) p = some (.ins C dx [("room", x0), ("height", x1), ("joint", x2), ("over", x3), ("keep", x4)]) := upd_same
      generalize upd J3 p (.ins C dx (putF "keep" x4 [("room", x0), ("height", x1), ("joint", x2), ("over", x3)])) = J4 at k2' hp2 ⊢
      have hw2 := k2' _ _ npw hw2
      have k2 := fun b o (hne : b ≠ p) (e : H b = some o) => k2' b o hne (k2 b o hne e)
      refine ⟨x5, rfl, .ref p, rfl, p, C, dx, [("room", x0), ("height", x1), ("joint", x2), ("over", x3), ("keep", x4)], rfl, hp2, T.cl, T.n_orphan, (by show 5 < 1000; decide), ?_⟩
      have npw : w0 ≠ p := ne_of hw2 hp2 (fun z => nomatch z)
      have k2' : ∀ b o, b ≠ p → J4 b = some o → (upd J4 p (.ins C dx (putF "orphan" x5 [("room", x0), ("height", x1), ("joint", x2), ("over", x3), ("keep", x4)]))) b = some o := fun b o h e => by rw [upd_ne h]; exact e
      have hp2 : (upd J4 p (.ins C dx (putF "orphan" x5 [("room", x0), ("height", x1), ("joint", x2), ("over", x3), ("keep", x4)]))) p = some (.ins C dx [("room", x0), ("height", x1), ("joint", x2), ("over", x3), ("keep", x4), ("orphan", x5)]) := upd_same
      generalize upd J4 p (.ins C dx (putF "orphan" x5 [("room", x0), ("height", x1), ("joint", x2), ("over", x3), ("keep", x4)])) = J5 at k2' hp2 ⊢
      have hw2 := k2' _ _ npw hw2
      have k2 := fun b o (hne : b ≠ p) (e : H b = some o) => k2' b o hne (k2 b o hne e)
      refine ⟨x6, rfl, .ref p, rfl, p, C, dx, [("room", x0), ("height", x1), ("joint", x2), ("over", x3), ("keep", x4), ("orphan", x5)], rfl, hp2, T.cl, T.n_widow, (by show 6 < 1000; decide), ?_⟩
      have npw : w0 ≠ p := ne_of hw2 hp2 (fun z => nomatch z)
      have k2' : ∀ b o, b ≠ p → J5 b = some o → (upd J5 p (.ins C dx (putF "widow" x6 [("room", x0), ("height", x1), ("joint", x2), ("over", x3), ("keep", x4), ("orphan", x5)]))) b = some o := fun b o h e => by rw [upd_ne h]; exact e
      have hp2 : (upd J5 p (.ins C dx (putF "widow" x6 [("room", x0), ("height", x1), ("joint", x2), ("over", x3), ("keep", x4), ("orphan", x5)]))) p = some (.ins C dx [("room", x0), ("height", x1), ("joint", x2), ("over", x3), ("keep", x4), ("orphan", x5), ("widow", x6)]) := upd_same
      generalize upd J5 p (.ins C dx (putF "widow" x6 [("room", x0), ("height", x1), ("joint", x2), ("over", x3), ("keep", x4), ("orphan", x5)])) = J6 at k2' hp2 ⊢
      have hw2 := k2' _ _ npw hw2
      have k2 := fun b o (hne : b ≠ p) (e : H b = some o) => k2' b o hne (k2 b o hne e)
      refine ⟨x7, rfl, .ref p, rfl, p, C, dx, [("room", x0), ("height", x1), ("joint", x2), ("over", x3), ("keep", x4), ("orphan", x5), ("widow", x6)], rfl, hp2, T.cl, T.n_wait, (by show 7 < 1000; decide), ?_⟩
      have npw : w0 ≠ p := ne_of hw2 hp2 (fun z => nomatch z)
      have k2' : ∀ b o, b ≠ p → J6 b = some o → (upd J6 p (.ins C dx (putF "wait" x7 [("room", x0), ("height", x1), ("joint", x2), ("over", x3), ("keep", x4), ("orphan", x5), ("widow", x6)]))) b = some o := fun b o h e => by rw [upd_ne h]; exact e
      have hp2 : (upd J6 p (.ins C dx (putF "wait" x7 [("room", x0), ("height", x1), ("joint", x2), ("over", x3), ("keep", x4), ("orphan", x5), ("widow", x6)]))) p = some (.ins C dx [("room", x0), ("height", x1), ("joint", x2), ("over", x3), ("keep", x4), ("orphan", x5), ("widow", x6), ("wait", x7)]) := upd_same
      generalize upd J6 p (.ins C dx (putF "wait" x7 [("room", x0), ("height", x1), ("joint", x2), ("over", x3), ("keep", x4), ("orphan", x5), ("widow", x6)])) = J7 at k2' hp2 ⊢
      have hw2 := k2' _ _ npw hw2
      have k2 := fun b o (hne : b ≠ p) (e : H b = some o) => k2' b o hne (k2 b o hne e)
      refine ⟨x8, rfl, .ref p, rfl, p, C, dx, [("room", x0), ("height", x1), ("joint", x2), ("over", x3), ("keep", x4), ("orphan", x5), ("widow", x6), ("wait", x7)], rfl, hp2, T.cl, T.n_columns, (by show 8 < 1000; decide), ?_⟩
      have npw : w0 ≠ p := ne_of hw2 hp2 (fun z => nomatch z)
      have k2' : ∀ b o, b ≠ p → J7 b = some o → (upd J7 p (.ins C dx (putF "columns" x8 [("room", x0), ("height", x1), ("joint", x2), ("over", x3), ("keep", x4), ("orphan", x5), ("widow", x6), ("wait", x7)]))) b = some o := fun b o h e => by rw [upd_ne h]; exact e
      have hp2 : (upd J7 p (.ins C dx (putF "columns" x8 [("room", x0), ("height", x1), ("joint", x2), ("over", x3), ("keep", x4), ("orphan", x5), ("widow", x6), ("wait", x7)]))) p = some (.ins C dx [("room", x0), ("height", x1), ("joint", x2), ("over", x3), ("keep", x4), ("orphan", x5), ("widow", x6), ("wait", x7), ("columns", x8)]) := upd_same
      generalize upd J7 p (.ins C dx (putF "columns" x8 [("room", x0), ("height", x1), ("joint", x2), ("over", x3), ("keep", x4), ("orphan", x5), ("widow", x6), ("wait", x7)])) = J8 at k2' hp2 ⊢
      have hw2 := k2' _ _ npw hw2
      have k2 := fun b o (hne : b ≠ p) (e : H b = some o) => k2' b o hne (k2 b o hne e)
      refine ⟨x9, rfl, .ref p, rfl, p, C, dx, [("room", x0), ("height", x1), ("joint", x2), ("over", x3), ("keep", x4), ("orphan", x5), ("widow", x6), ("wait", x7), ("columns", x8)], rfl, hp2, T.cl, T.n_gutter, (by show 9 < 1000; decide), ?_⟩
      have npw : w0 ≠ p := ne_of hw2 hp2 (fun z => nomatch z)
      have k2' : ∀ b o, b ≠ p → J8 b = some o → (upd J8 p (.ins C dx (putF "gutter" x9 [("room", x0), ("height", x1), ("joint", x2), ("over", x3), ("keep", x4), ("orphan", x5), ("widow", x6), ("wait", x7), ("columns", x8)]))) b = some o := fun b o h e => by rw [upd_ne h]; exact e
      have hp2 : (upd J8 p (.ins C dx (putF "gutter" x9 [("room", x0), ("height", x1), ("joint", x2), ("over", x3), ("keep", x4), ("orphan", x5), ("widow", x6), ("wait", x7), ("columns", x8)]))) p = some (.ins C dx [("room", x0), ("height", x1), ("joint", x2), ("over", x3), ("keep", x4), ("orphan", x5), ("widow", x6), ("wait", x7), ("columns", x8), ("gutter", x9)]) := upd_same
      generalize upd J8 p (.ins C dx (putF "gutter" x9 [("room", x0), ("height", x1), ("joint", x2), ("over", x3), ("keep", x4), ("orphan", x5), ("widow", x6), ("wait", x7), ("columns", x8)])) = J9 at k2' hp2 ⊢
      have hw2 := k2' _ _ npw hw2
      have k2 := fun b o (hne : b ≠ p) (e : H b = some o) => k2' b o hne (k2 b o hne e)
      refine ⟨x10, rfl, .ref p, rfl, p, C, dx, [("room", x0), ("height", x1), ("joint", x2), ("over", x3), ("keep", x4), ("orphan", x5), ("widow", x6), ("wait", x7), ("columns", x8), ("gutter", x9)], rfl, hp2, T.cl, T.n_full, (by show 10 < 1000; decide), ?_⟩
      have npw : w0 ≠ p := ne_of hw2 hp2 (fun z => nomatch z)
      have k2' : ∀ b o, b ≠ p → J9 b = some o → (upd J9 p (.ins C dx (putF "full" x10 [("room", x0), ("height", x1), ("joint", x2), ("over", x3), ("keep", x4), ("orphan", x5), ("widow", x6), ("wait", x7), ("columns", x8), ("gutter", x9)]))) b = some o := fun b o h e => by rw [upd_ne h]; exact e
      have hp2 : (upd J9 p (.ins C dx (putF "full" x10 [("room", x0), ("height", x1), ("joint", x2), ("over", x3), ("keep", x4), ("orphan", x5), ("widow", x6), ("wait", x7), ("columns", x8), ("gutter", x9)]))) p = some (.ins C dx [("room", x0), ("height", x1), ("joint", x2), ("over", x3), ("keep", x4), ("orphan", x5), ("widow", x6), ("wait", x7), ("columns", x8), ("gutter", x9), ("full", x10)]) := upd_same
      generalize upd J9 p (.ins C dx (putF "full" x10 [("room", x0), ("height", x1), ("joint", x2), ("over", x3), ("keep", x4), ("orphan", x5), ("widow", x6), ("wait", x7), ("columns", x8), ("gutter", x9)])) = J10 at k2' hp2 ⊢
      have hw2 := k2' _ _ npw hw2
      have k2 := fun b o (hne : b ≠ p) (e : H b = some o) => k2' b o hne (k2 b o hne e)
      refine ⟨(.ref w0), rfl, .ref p, rfl, p, C, dx, [("room", x0), ("height", x1), ("joint", x2), ("over", x3), ("keep", x4), ("orphan", x5), ("widow", x6), ("wait", x7), ("columns", x8), ("gutter", x9), ("full", x10)], rfl, hp2, T.cl, T.n_worths, (by show 11 < 1000; decide), ?_⟩
      have npw : w0 ≠ p := ne_of hw2 hp2 (fun z => nomatch z)
      have k2' : ∀ b o, b ≠ p → J10 b = some o → (upd J10 p (.ins C dx (putF "_worths" (.ref w0) [("room", x0), ("height", x1), ("joint", x2), ("over", x3), ("keep", x4), ("orphan", x5), ("widow", x6), ("wait", x7), ("columns", x8), ("gutter", x9), ("full", x10)]))) b = some o := fun b o h e => by rw [upd_ne h]; exact e
      have hp2 : (upd J10 p (.ins C dx (putF "_worths" (.ref w0) [("room", x0), ("height", x1), ("joint", x2), ("over", x3), ("keep", x4), ("orphan", x5), ("widow", x6), ("wait", x7), ("columns", x8), ("gutter", x9), ("full", x10)]))) p = some (.ins C dx [("room", x0), ("height", x1), ("joint", x2), ("over", x3), ("keep", x4), ("orphan", x5), ("widow", x6), ("wait", x7), ("columns", x8), ("gutter", x9), ("full", x10), ("_worths", (.ref w0))]) := upd_same
      generalize upd J10 p (.ins C dx (putF "_worths" (.ref w0) [("room", x0), ("height", x1), ("joint", x2), ("over", x3), ("keep", x4), ("orphan", x5), ("widow", x6), ("wait", x7), ("columns", x8), ("gutter", x9), ("full", x10)])) = J11 at k2' hp2 ⊢
      have hw2 := k2' _ _ npw hw2
      have k2 := fun b o (hne : b ≠ p) (e : H b = some o) => k2' b o hne (k2 b o hne e)
      exact q hb _ k2 ⟨dx, w0, hp2, hw2⟩
end
end K37.Bo

set_option maxRecDepth 100000
set_option maxHeartbeats 8000000
namespace K37.Bo
open PySem PySem.Spec PyProof.Rows L2
theorem b_book {K : PySem.W.Frag} {f : Addr} {fd : FuncData} (F : InitD K f fd) : KBn K fd pBk 3 ["joint", "over", "keep", "orphan", "widow", "wait", "columns", "gutter", "full"] (fun us ws => us ++ ws) (fun vs zs => vs ++ zs) := by
  obtain ⟨mv, h⟩ := F.kbinds0 (ps := pBk) 3 ["joint", "over", "keep", "orphan", "widow", "wait", "columns", "gutter", "full"] [] (fun us mv ws => us ++ ws) (fun z => nomatch z) (fun q h => nomatch h) (fun r1 r2 r3 => r1.append r3) fun D doc pm an cdv ct us mv ws e1 e2 e3 => match us, mv, ws, e1, e2, e3 with
    | [_, _, _], [], [_, _, _, _, _, _, _, _, _], _, _, _ => by with_unfolding_all rfl
  exact h
theorem made_up {H : Hp} {x dx C : Addr} (nx : H x = none) (ndx : H dx = none) : Same H (upd (upd H dx (.own x)) x (.ins C dx [])) := fun b o hb => by
  rw [upd_ne (fun e => by subst e; rw [nx] at hb; cases hb), upd_ne (fun e => by subst e; rw [ndx] at hb; cases hb)]; exact hb
theorem made_same {H H' : Hp} {x dx C : Addr} (nx : H x = none) (ndx : H dx = none) (hk : ∀ b o, b ≠ x → (upd (upd H dx (.own x)) x (.ins C dx [])) b = some o → H' b = some o) : Same H H' := fun b o hb =>
  hk b o (fun e => by subst e; rw [nx] at hb; cases hb) (made_up nx ndx b o hb)
section
variable {P : Program} {w : World} {K : PySem.W.Frag} {mg : Str → Option Value} {base : Heap}
/-! ### _law_book_of -/
def spLB (C CB : Addr) : Sp := fun vs H Q E => ∃ (a : Addr) (xs : List V), vs = [.ref a] ∧ H a = some (.lst xs) ∧ xs.length = 11 ∧ (∀ x ∈ xs, OddV H x) ∧
  (∀ k, badF 0 xs = some k → ∀ H1 d, Same H H1 → H1 d = none → E (.ref CB) (some d) (upd H1 d (.xd [("field", .str (names.getD k (Str.ofString "")))]))) ∧
  (badF 0 xs = none → ∀ H' r, Same H H' → H r = none → BookA C H' r xs → Q (.ref r) H')
theorem scBook : FnScope ["_law_nums"] ["_law_nums"] (defScope sBookOf) := ⟨rfl, rfl, rfl, by decide +kernel, rfl, by decide +kernel, by decide +kernel⟩
theorem ok_book {C CB FT f_init f : Addr} {mc u : Value} {fd_init fd : FuncData} (T : Bok K mg C FT mc u) (M : Mk K C f_init) (FI : InitD K f_init fd_init) (F : Fun K "_law_book_of" "_law_book_of" sBookOf f fd)
    (G_init : FnOk P w K mg base (L2N.CX P w) 4 f_init fd_init pBk (spInit C CB)) : FnOk P w K mg base (L2N.CX P w) 6 f fd ["_law_nums"] (spLB C CB) := by
  have KB := b_book FI
  refine RN.okXN F scBook (fun vs H Q E h => ?_) (fun cdv A0 outer s H vs Q E hr h => ?_)
  · obtain ⟨a, xs, rfl, _⟩ := h; rfl
  · obtain ⟨a, xs, rfl, ha, hl, ho, qe, q⟩ := h
    refine ⟨_, pss_one (ps_ret (pe_makeK M G_init hr (by rfl) T.mgC KB (L2N.passes_call (L2N.takes_of rfl rfl rfl rfl) (fun _ _ _ _ h => h)) (pa_cons (pe_ix ix_list (pv 0) pe_int (fun _ _ => rfl)) (pa_cons (pe_ix ix_list (pv 0) pe_int (fun _ _ => rfl)) pa_nil)) (pk_cons (pe_ix ix_list (pv 0) pe_int (fun _ _ => rfl)) (pk_cons (pe_ix ix_list (pv 0) pe_int (fun _ _ => rfl)) (pk_cons (pe_ix ix_list (pv 0) pe_int (fun _ _ => rfl)) (pk_cons (pe_ix ix_list (pv 0) pe_int (fun _ _ => rfl)) (pk_cons (pe_ix ix_list (pv 0) pe_int (fun _ _ => rfl)) (pk_cons (pe_ix ix_list (pv 0) pe_int (fun _ _ => rfl)) (pk_cons (pe_ix ix_list (pv 0) pe_int (fun _ _ => rfl)) (pk_cons (pe_ix ix_list (pv 0) pe_int (fun _ _ => rfl)) (pk_cons (pe_ix ix_list (pv 0) pe_int (fun _ _ => rfl)) pk_nil))))))))))), ?_⟩
    match xs, hl with
    | [x0, x1, x2, x3, x4, x5, x6, x7, x8, x9, x10], _ =>
    refine ⟨.ref a, rfl, a, _, 0, x0, rfl, rfl, SqL.of ha, rfl, .ref a, rfl, a, _, 1, x1, rfl, rfl, SqL.of ha, rfl, .ref a, rfl, a, _, 2, x2, rfl, rfl, SqL.of ha, rfl, .ref a, rfl, a, _, 3, x3, rfl, rfl, SqL.of ha, rfl, .ref a, rfl, a, _, 4, x4, rfl, rfl, SqL.of ha, rfl, .ref a, rfl, a, _, 5, x5, rfl, rfl, SqL.of ha, rfl, .ref a, rfl, a, _, 6, x6, rfl, rfl, SqL.of ha, rfl, .ref a, rfl, a, _, 7, x7, rfl, rfl, SqL.of ha, rfl, .ref a, rfl, a, _, 8, x8, rfl, rfl, SqL.of ha, rfl, .ref a, rfl, a, _, 9, x9, rfl, rfl, SqL.of ha, rfl, .ref a, rfl, a, _, 10, x10, rfl, rfl, SqL.of ha, rfl, rfl, rfl, fun p dx np ndx hne => ?_⟩
    have sM : Same H (upd (upd H dx (.own p)) p (.ins C dx [])) := made_up np ndx
    exact ⟨p, dx, x0, x1, x2, x3, x4, x5, x6, x7, x8, x9, x10, rfl, upd_same, fun x hx => (ho x hx).same sM, fun k hb H1 d hk hd => qe k hb H1 d (made_same np ndx hk) hd, fun hb H1 hk hB => ⟨rfl, q hb H1 p (made_same np ndx hk) np hB⟩⟩
end
end K37.Bo

set_option maxRecDepth 100000
set_option maxHeartbeats 8000000
namespace K37.Bo
open PySem PySem.Spec PyProof.Rows L2
theorem len11 {xs : List V} (h : xs.length = 11) : ∃ x0 x1 x2 x3 x4 x5 x6 x7 x8 x9 x10 : V, xs = [x0, x1, x2, x3, x4, x5, x6, x7, x8, x9, x10] :=
  match xs, h with
  | [x0, x1, x2, x3, x4, x5, x6, x7, x8, x9, x10], _ => ⟨_, _, _, _, _, _, _, _, _, _, _, rfl⟩
section
variable {P : Program} {w : World} {K : PySem.W.Frag} {mg : Str → Option Value} {base : Heap}
/-- the values as data -/
def dV : V → PyData
  | .int i => .int i
  | .bl b => .bool b
  | _ => .none
theorem dp_flat {H : Hp} : ∀ {xs : List V}, (∀ x ∈ xs, (∃ i, x = .int i) ∨ ∃ b, x = .bl b) → DpAll K H xs (xs.map dV)
  | [], _ => .nil
  | x :: xs, h => by
    refine .cons ?_ (dp_flat fun y hy => h y (List.mem_cons_of_mem _ hy))
    rcases h x (List.mem_cons_self ..) with ⟨i, rfl⟩ | ⟨b, rfl⟩
    · exact .int i
    · exact .bl b
theorem Good.flat {xs : List V} (g : Good xs) : ∀ x ∈ xs, (∃ i, x = .int i) ∨ ∃ b, x = .bl b := fun x hx => by
  obtain ⟨k, hk⟩ := List.mem_iff_getElem?.mp hx
  have := g.2 k x hk
  cases x with
  | int i => exact .inl ⟨i, rfl⟩
  | bl b => exact .inr ⟨b, rfl⟩
  | _ => cases this
end
/-- two values of one kind -/
def Kin (u v : V) : Prop := (∃ i j, u = .int i ∧ v = .int j) ∨ ∃ a b, u = .bl a ∧ v = .bl b
theorem eqv_kin : ∀ {u v : V}, Kin u v → PyData.eqv (dV u) (dV v) = decide (u = v) := fun {u v} h => by
  rcases h with ⟨i, j, rfl, rfl⟩ | ⟨a, b, rfl, rfl⟩
  · show (i == j) = _
    rw [Bool.eq_iff_iff]; simp
  · show (a == b) = _
    rw [Bool.eq_iff_iff]; simp
theorem eqv_all : ∀ {xs ys : List V}, xs.length = ys.length → (∀ (k : Nat) (u v : V), xs[k]? = some u → ys[k]? = some v → Kin u v) → PyData.eqvAll (xs.map dV) (ys.map dV) = decide (xs = ys)
  | [], [], _, _ => rfl
  | [], _ :: _, h, _ => nomatch h
  | _ :: _, [], h, _ => nomatch h
  | x :: xs, y :: ys, h, hk => by
    show (PyData.eqv (dV x) (dV y) && PyData.eqvAll (xs.map dV) (ys.map dV)) = _
    rw [eqv_kin (hk 0 x y rfl rfl), eqv_all (Nat.succ.inj h) fun k u v a b => hk (k + 1) u v a b, Bool.eq_iff_iff]
    simp
theorem Good.kin {xs ys : List V} (g : Good xs) (g2 : Good ys) : ∀ (k : Nat) (u v : V), xs[k]? = some u → ys[k]? = some v → Kin u v := fun k u v a b => by
  have h1 := g.2 k u a
  have h2 := g2.2 k v b
  have c : ∀ {w : V}, fitsB k w = true → (k < 10 ∧ ∃ i, w = .int i) ∨ (k = 10 ∧ ∃ q, w = .bl q) := fun {w} h => by
    cases w with
    | int i =>
      have h : (decide (k < 10) && (decide (los.getD k 0 ≤ i) && decide (i ≤ his.getD k 0))) = true := h
      rw [Bool.and_eq_true] at h
      exact .inl ⟨of_decide_eq_true h.1, i, rfl⟩
    | bl q => exact .inr ⟨of_decide_eq_true h, q, rfl⟩
    | _ => cases h
  rcases c h1 with ⟨n1, i, rfl⟩ | ⟨n1, p, rfl⟩ <;> rcases c h2 with ⟨n2, j, rfl⟩ | ⟨n2, q, rfl⟩
  · exact .inl ⟨i, j, rfl, rfl⟩
  · omega
  · omega
  · exact .inr ⟨p, q, rfl, rfl⟩
theorem Good.eqv {xs ys : List V} (g : Good xs) (g2 : Good ys) : PyData.eqvAll (xs.map dV) (ys.map dV) = decide (xs = ys) := eqv_all (g.1.trans g2.1.symm) (g.kin g2)
theorem can_flat : ∀ (xs : List V), PyData.canLayAll0 (xs.map dV) = true ∧ PyData.depthAll (xs.map dV) = 0
  | [] => ⟨rfl, rfl⟩
  | x :: xs => by
    obtain ⟨h1, h2⟩ := can_flat xs
    have hx : (dV x).canLay0 = true ∧ (dV x).depth = 0 := by cases x <;> exact ⟨rfl, rfl⟩
    refine ⟨?_, ?_⟩
    · show ((dV x).canLay0 && PyData.canLayAll0 (xs.map dV)) = true
      rw [hx.1, h1]; rfl
    · show max (dV x).depth (PyData.depthAll (xs.map dV)) = 0
      rw [hx.2, h2]; rfl
theorem sh_tup (xs : List V) : SeqAt.shaped (.tuple (xs.map dV)) = true := by
  obtain ⟨h1, h2⟩ := can_flat xs
  show (PyData.canLayAll0 (xs.map dV) && decide (PyData.depthAll (xs.map dV) + 1 ≤ 64)) = true
  rw [h1, h2]; rfl
theorem sh_lst (xs : List V) : SeqAt.shaped (.list (xs.map dV)) = true := sh_tup xs
section
variable {P : Program} {w : World} {K : PySem.W.Frag} {mg : Str → Option Value} {base : Heap}
/-- what isinstance asks -/
structure BkI (K : PySem.W.Frag) (C : Addr) : Prop where
  ha : PySem.W.findIn K (.ref C) "__class__" = some (some (.builtin "object.__class__"))
  hn : PySem.W.specialIn K (.builtin "object.__class__") "__get__" = some (some (.builtin "getset_descriptor.__get__"))
  ht : PySem.W.takesIn K (.builtin "object.__class__") = some true
  hm : PySem.W.mroIn K C (.type "object") = some true
  ks : PySem.W.kitOne K (.ref C) (.ref C) = some true
  kl : PySem.W.kitOne K (.type "list") (.ref C) = some false
  kt : PySem.W.kitOne K (.type "tuple") (.ref C) = some false
def spEq (C : Addr) : Sp := fun vs H Q _ => ∃ (p q : Addr) (xs ys : List V), vs = [.ref p, .ref q] ∧ BookA C H p xs ∧ BookA C H q ys ∧ Good xs ∧ Good ys ∧ Q (.bl (decide (xs = ys))) H
abbrev pOt : List Str := ["self", "other"]
theorem scEq : FnScope pOt pOt (defScope sEq) := ⟨rfl, rfl, rfl, by decide +kernel, rfl, by decide +kernel, by decide +kernel⟩
theorem lkW {xs : List V} (h : xs.length = 11) (w : Addr) : (fsB xs w).lookup ("_worths" : Str) = some (.ref w) := by
  obtain ⟨x0, x1, x2, x3, x4, x5, x6, x7, x8, x9, x10, rfl⟩ := len11 h
  rfl
theorem ok_eq {C FT f : Addr} {mc u : Value} {fd : FuncData} (B : Blt mg) (T : Bok K mg C FT mc u) (I : BkI K C) (F : Fun K "__eq__" "Book.__eq__" sEq f fd) : FnOk P w K mg base CX0 1 f fd pOt (spEq C) := by
  refine F.ok scEq (fun vs H Q E h => ?_) (fun cdv A0 outer s H vs Q E hr h => ?_)
  · obtain ⟨p, q, xs, ys, rfl, _⟩ := h; rfl
  · obtain ⟨p, r, xs, ys, rfl, ⟨dx, w1, hp, hw⟩, ⟨dy, w2, hr2, hv⟩, g1, g2, q⟩ := h
    refine ⟨_, (pss_cons (ps_if (pt_not (pt_val (pe_callB call_isi (by rfl) B.isi (by decide +kernel) (pa_cons (pv 1) (pa_cons (pe_glob (v := .ref C) (by rfl) T.mgC rfl) pa_nil))))) (pss_one ps_never) pss_nil)
      (pss_one (ps_ret (pe_cmpR (op_eqD hr.units) (pe_fld (pv 0) rfl) (pe_fld (pv 1) rfl) (nomark _))))), ?_⟩
    refine ⟨.ref r, rfl, .ref r, .ref C, .ref C, .ref C, true, rfl, .own C, .base (.ins hr2 T.cl I.ha I.hn I.ht I.hm), I.ks, _, rfl, iteF ?_⟩
    refine ⟨.ref p, rfl, p, C, dx, _, .ref w1, rfl, hp, T.cl, T.n_worths, lkW g1.1 w1, .ref r, rfl, r, C, dy, _, .ref w2, rfl, hr2, T.cl, T.n_worths, lkW g2.1 w2, .tuple (xs.map dV), .tuple (ys.map dV), .tup (SqT.of hw) (dp_flat g1.flat), .tup (SqT.of hv) (dp_flat g2.flat), sh_tup xs, sh_tup ys, ?_⟩
    have e : PyData.eqv (.tuple (xs.map dV)) (.tuple (ys.map dV)) = decide (xs = ys) := g1.eqv g2
    rw [e]; exact q
def niR : List V → Hp → (Hp → Prop) → Prop := fun vs H Rh => ∃ (r l : Addr) (xs : List V), vs = [.ref r, .ref l] ∧ (H l = some (.lst xs) ∨ H l = some (.tup xs)) ∧ Rh H
theorem ni_eq {C FT f : Addr} {mc u : Value} {fd : FuncData} (B : Blt mg) (T : Bok K mg C FT mc u) (I : BkI K C) (F : Fun K "__eq__" "Book.__eq__" sEq f fd) (b : Binds K fd pOt []) : R7.NiOk P w K mg base 1 f niR := by
  obtain ⟨oc, od, kV, doc, pm, an, cdv, ct, osl, rfl, lk, hcd⟩ := F.ex
  refine R7.ni_of lk hcd scEq rfl b (fun vs H Rh h => ?_) B.NotImplemented (fun _ _ _ _ => by rfl) (fun A outer s H vs Rh hr h => ?_)
  · obtain ⟨r, l, xs, rfl, _⟩ := h; rfl
  · obtain ⟨r, l, xs, rfl, hl, q⟩ := h
    refine ⟨_, (pt_not (pt_val (pe_callB call_isi (by rfl) B.isi (by decide +kernel) (pa_cons (pv 1) (pa_cons (pe_glob (v := .ref C) (by rfl) T.mgC rfl) pa_nil))))), ?_⟩
    rcases hl with hl | hl
    · exact ⟨.ref l, rfl, .ref l, .ref C, .type "list", .ref C, false, rfl, .own C, .base (.lst hl), I.kl, _, rfl, rfl, q⟩
    · exact ⟨.ref l, rfl, .ref l, .ref C, .type "tuple", .ref C, false, rfl, .own C, .base (.tup hl), I.kt, _, rfl, rfl, q⟩
end
end K37.Bo

set_option maxRecDepth 100000
set_option maxHeartbeats 8000000
namespace K37
open PySem PySem.Spec PyProof.Rows L2
def wlim (us ra : Nat) : List Int := [8, (us : Int) + 1, (ra : Int) + 1, 5, 5, 4, 5, 4]
def nlim (a b d : Int) : List Int := [a, b, d, d, d, d, d, d, 4, 41, 2]
theorem rowN {ls rs : List Int} (h : RowOf ls rs) (i L : Nat) (e : ls[i]? = some (L : Int)) : ∃ m : Nat, m < L ∧ rs[i]? = some (m : Int) := by
  obtain ⟨r, h1, h2, h3⟩ := h.2 i _ e
  exact ⟨r.toNat, by omega, by rw [h1, Int.toNat_of_nonneg h2]⟩
theorem five {xs : List Int} (hl : xs.length = 5) (hx : ∀ x ∈ xs, 1 ≤ x ∧ x ≤ 2000) {m : Nat} (hm : m < 5) : ∃ y : Int, 1 ≤ y ∧ y ≤ 2000 ∧ atI (xs.map V.int) (m : Int) = some (.int y) := by
  obtain ⟨y, hy⟩ : ∃ y, xs[m]? = some y := ⟨_, List.getElem?_eq_getElem (by omega)⟩
  obtain ⟨h1, h2⟩ := hx y (List.mem_of_getElem? hy)
  exact ⟨y, h1, h2, atI_nat (by rw [List.getElem?_map, hy]; rfl)⟩
theorem four {xs : List Int} (hl : xs.length = 4) (hx : ∀ x ∈ xs, 1 ≤ x ∧ x ≤ 2001) {m : Nat} (hm : m < 4) : ∃ y : Int, 1 ≤ y ∧ y ≤ 2001 ∧ atI (xs.map V.int) (m : Int) = some (.int y) := by
  obtain ⟨y, hy⟩ : ∃ y, xs[m]? = some y := ⟨_, List.getElem?_eq_getElem (by omega)⟩
  obtain ⟨h1, h2⟩ := hx y (List.mem_of_getElem? hy)
  exact ⟨y, h1, h2, atI_nat (by rw [List.getElem?_map, hy]; rfl)⟩
theorem minE (m s : Nat) : (if (s : Int) < (m : Int) then (s : Int) else (m : Int)) = ((min m s : Nat) : Int) := by
  split <;> omega
theorem minB {w : Int} (h : 1 ≤ w) : ∃ y : Int, 1 ≤ y ∧ y ≤ 2000 ∧ (if 5 * w < 2000 then 5 * w else 2000) = y := by
  by_cases c : 5 * w < 2000
  · exact ⟨5 * w, by omega, by omega, if_pos c⟩
  · exact ⟨2000, by omega, by omega, if_neg c⟩
theorem fitI {k : Nat} {i : Int} (hk : k < 10) (h1 : Bo.los.getD k 0 ≤ i) (h2 : i ≤ Bo.his.getD k 0) : Bo.fitsB k (.int i) = true := by
  show (decide (k < 10) && (decide (Bo.los.getD k 0 ≤ i) && decide (i ≤ Bo.his.getD k 0))) = true
  rw [decide_eq_true hk, decide_eq_true h1, decide_eq_true h2]; rfl
section
variable {P : Program} {w : World} {K : PySem.W.Frag} {mg : Str → Option Value} {base : Heap} {t1 t2 : Tok}
/-! ### _law_world -/
def spWorld (K : PySem.W.Frag) : Sp := fun vs H Q _ => ∃ (a : Addr) (ns : List Int) (us ra st : Nat), vs = [.ref a, .int (us : Int), .int (ra : Int), .int (st : Int)] ∧ SqL K H a (ns.map V.int) ∧ ns.length ≤ 63 ∧ us ≤ 40 ∧ ra ≤ 40 ∧
  ∀ H' (t bl nu : Addr) (bs : List Bk) (xs : List V) (wide : Int), Same H H' → H' t = some (.tup [.ref bl, .ref nu]) → H' bl = some (.lst (bv bs)) → BsT H' bs → bs.length ≤ 40 → (pcs bs).length ≤ 40 → (figs (pcs bs)).length ≤ 4 → (∀ b ∈ bs, BkOk wide b) → 1 ≤ wide ∧ wide ≤ 2000 → H' nu = some (.lst xs) → Bo.Good xs → Q (.ref t) H'
abbrev pWo : List Str := ["_law_script", "_law_usual", "_law_rare", "_law_steep"]
abbrev nWo : List Str := ["_law_script", "_law_usual", "_law_rare", "_law_steep", "_law_pick", "_law_many", "_law_cap", "_law_wide", "_law_tall", "_law_cells", "_law_k", "_law_made", "_law_dear", "_law_limits", "_law_row_here"]
theorem scWorld : FnScope nWo pWo (defScope sWorld) := ⟨rfl, rfl, rfl, by decide +kernel, rfl, by decide +kernel, by decide +kernel⟩
theorem ok_world {f f_cell f_row f_made_blocks f_merged : Addr} {fd fd_cell fd_row fd_made_blocks fd_merged : FuncData} (B : Blt mg) (F : Fun K "_law_world" "_law_world" sWorld f fd)
    (F_cell : Fun K "_law_cell" "_law_cell" sCell f_cell fd_cell) (b_cell : Binds K fd_cell ["_law_script", "_law_k"] []) (g_cell : mg "_law_cell" = some (.ref f_cell))
    (F_row : Fun K "_law_row" "_law_row" sRow f_row fd_row) (b_row : Binds K fd_row ["_law_cell_here", "_law_limits"] []) (g_row : mg "_law_row" = some (.ref f_row))
    (F_made_blocks : Fun K "_law_made_blocks" "_law_made_blocks" sBlocks f_made_blocks fd_made_blocks) (b_made_blocks : Binds K fd_made_blocks pMb []) (g_made_blocks : mg "_law_made_blocks" = some (.ref f_made_blocks)) (G_made_blocks : FnOk P w K mg base CX0 2 f_made_blocks fd_made_blocks pMb spMb)
    (F_merged : Fun K "_law_merged" "_law_merged" sMerged f_merged fd_merged) (b_merged : Binds K fd_merged ["_law_blocks"] []) (g_merged : mg "_law_merged" = some (.ref f_merged)) : FnOk P w K mg base CX0 3 f fd pWo (spWorld K) := by
  have G_cell : FnOk P w K mg base CX0 1 f_cell fd_cell ["_law_script", "_law_k"] (spCell K) := ok_cell B F_cell
  have G_row : FnOk P w K mg base CX0 1 f_row fd_row ["_law_cell_here", "_law_limits"] (spRow K) := ok_row B F_row
  have G_merged : FnOk P w K mg base CX0 1 f_merged fd_merged ["_law_blocks"] spMg := ok_merged B F_merged
  refine F.ok scWorld (fun vs H Q E h => ?_) (fun cdv A0 outer s H vs Q E hr h => ?_)
  · obtain ⟨a, ns, us, ra, st, rfl, _⟩ := h; rfl
  · obtain ⟨a, ns, us, ra, st, rfl, hS, hns, hus, hra, q⟩ := h
    have hr2 : Room 2 _ := hr
    have hr1 : Room 1 _ := hr.mono (by decide)
    refine ⟨_, (pss_cons (ps_set (i := 4) scWorld.nd rfl (.inl rfl) (pe_call G_row hr1 (by rfl) g_row F_row.kp b_row .nil pass0 (pa_cons (pe_call G_cell hr1 (by rfl) g_cell F_cell.kp b_cell .nil pass0 (pa_cons (pv 0) (pa_cons pe_int pa_nil))) (pa_cons (pe_lst (pa_cons pe_int (pa_cons (pe_op op_add (pv 1) pe_int) (pa_cons (pe_op op_add (pv 2) pe_int) (pa_cons pe_int (pa_cons pe_int (pa_cons pe_int (pa_cons pe_int (pa_cons pe_int pa_nil))))))))) pa_nil))))
      (pss_cons (ps_par (i := 5) (j := 6) (by rfl) scWorld.nd rfl rfl (by decide) rfl rfl (pa_cons (pe_ix ix_list (pv 4) pe_int (fun _ _ => rfl)) (pa_cons (pe_ix ix_list (pv 4) pe_int (fun _ _ => rfl)) pa_nil)) (by rfl))
      (Evl.pss_cut (ps_if (pt_cmpR op_eq (pe_ix ix_list (pv 4) pe_int (fun _ _ => rfl)) pe_int (nomark _))
      (pss_one (ps_set (i := 5) scWorld.nd rfl (.inl rfl) (pe_ix ix_list (pv 4) pe_int (fun _ _ => rfl))))
      pss_nil)
      (pss_cons (ps_par (i := 7) (j := 8) (by rfl) scWorld.nd rfl rfl (by decide) rfl rfl (pa_cons (pe_ix ix_list (pe_lst (pa_cons pe_int (pa_cons pe_int (pa_cons pe_int (pa_cons pe_int (pa_cons pe_int pa_nil)))))) (pe_ix ix_list (pv 4) pe_int (fun _ _ => rfl)) (fun _ _ => rfl)) (pa_cons (pe_ix ix_list (pe_lst (pa_cons pe_int (pa_cons pe_int (pa_cons pe_int (pa_cons pe_int (pa_cons pe_int pa_nil)))))) (pe_ix ix_list (pv 4) pe_int (fun _ _ => rfl)) (fun _ _ => rfl)) pa_nil)) (by rfl))
      (Evl.pss_cut (ps_if (pt_cmpR op_gt (pv 8) pe_int (nomark _))
      (pss_one (ps_set (i := 5) scWorld.nd rfl (.inl rfl) (pe_callB (call_min2 rfl) (by rfl) B.min (by decide +kernel) (pa_cons (pv 5) (pa_cons (pv 3) pa_nil)))))
      pss_nil)
      (pss_cons (ps_setLc (i := 9) (own := [("_law_k", 10)]) (g := gName 10) (tt := tYes) rfl scWorld.nd rfl rfl (sw_true rfl rfl rfl (by decide +kernel)) (pi_range1 (by rfl) B.range (pa_cons (pe_callB (call_max2 rfl) (by rfl) B.max (by decide +kernel) (pa_cons pe_int (pa_cons (pe_callB (call_min2 rfl) (by rfl) B.min (by decide +kernel) (pa_cons pe_int (pa_cons (pe_op op_sub (pe_callB call_len (by rfl) B.len PySem.boot_len (pa_cons (pv 0) pa_nil)) pe_int) pa_nil))) pa_nil))) pa_nil)) (blkOk_by (N := nWo) (sc := defScope sWorld) (by decide +kernel)) (fun _ _ _ _ _ => (pg_name (i := 10) scWorld.nd rfl (.inl rfl))) (fun _ _ _ _ _ => pts_nil) (fun _ _ _ _ _ => (pe_call G_cell hr1 (by rfl) g_cell F_cell.kp b_cell .nil pass0 (pa_cons (pv 0) (pa_cons (pe_op op_add pe_int (pv 10)) pa_nil)))))
      (pss_cons (ps_set (i := 11) scWorld.nd rfl (.inl rfl) (pe_call G_made_blocks hr2 (by rfl) g_made_blocks F_made_blocks.kp b_made_blocks .nil pass0 (pa_cons (pv 9) (pa_cons (pv 5) (pa_cons (pv 6) (pa_cons (pv 7) (pa_cons (pv 8) pa_nil)))))))
      (Evl.pss_cut (ps_if (pt_cmpR op_eq (pe_ix ix_list (pv 4) pe_int (fun _ _ => rfl)) pe_int (nomark _))
      (pss_one (ps_set (i := 11) scWorld.nd rfl (.inl rfl) (pe_call G_merged hr1 (by rfl) g_merged F_merged.kp b_merged .nil pass0 (pa_cons (pv 11) pa_nil))))
      pss_nil)
      (pss_cons (ps_set (i := 12) scWorld.nd rfl (.inl rfl) (pe_ix ix_list (pe_lst (pa_cons pe_int (pa_cons pe_int (pa_cons pe_int (pa_cons pe_int pa_nil))))) (pe_ix ix_list (pv 4) pe_int (fun _ _ => rfl)) (fun _ _ => rfl)))
      (pss_cons (ps_set (i := 13) scWorld.nd rfl (.inl rfl) (pe_op op_cat (pe_op op_cat (pe_lst (pa_cons (pe_callB (call_min2 rfl) (by rfl) B.min (by decide +kernel) (pa_cons pe_int (pa_cons (pe_op op_mul pe_int (pv 7)) pa_nil))) (pa_cons (pe_callB (call_min2 rfl) (by rfl) B.min (by decide +kernel) (pa_cons pe_int (pa_cons (pe_op op_mul pe_int (pv 8)) pa_nil))) pa_nil))) (pe_op op_rep (pe_lst (pa_cons (pv 12) pa_nil)) pe_int)) (pe_lst (pa_cons pe_int (pa_cons pe_int (pa_cons pe_int pa_nil))))))
      (pss_cons (ps_set (i := 14) scWorld.nd rfl (.inl rfl) (pe_call G_row hr1 (by rfl) g_row F_row.kp b_row .nil pass0 (pa_cons (pe_call G_cell hr1 (by rfl) g_cell F_cell.kp b_cell .nil pass0 (pa_cons (pv 0) (pa_cons pe_int pa_nil))) (pa_cons (pv 13) pa_nil))))
      (pss_one (ps_ret (pe_tup (pa_cons (pv 11) (pa_cons (pe_op op_cat (pe_op op_cat (pe_lst (pa_cons (pe_op op_add (pe_ix ix_list (pv 14) pe_int (fun _ _ => rfl)) pe_int) (pa_cons (pe_op op_add (pe_ix ix_list (pv 14) pe_int (fun _ _ => rfl)) pe_int) pa_nil))) (pe_slice sl_list (pv 14) (po_some pe_int) (po_some pe_int))) (pe_lst (pa_cons (pe_op op_add (pe_ix ix_list (pv 14) pe_int (fun _ _ => rfl)) pe_int) (pa_cons (pe_ix ix_list (pv 14) pe_int (fun _ _ => rfl)) (pa_cons (pe_cmpR op_eq (pe_ix ix_list (pv 14) pe_int (fun _ _ => rfl)) pe_int (nomark _)) pa_nil))))) pa_nil)))))))))))))))), ?_⟩
    refine ⟨.ref a, rfl, a, ns, 0, rfl, hS, hns, by decide, fun c0 => ?_⟩
    refine ⟨.int (us : Int), rfl, _, _, rfl, rfl, .int (ra : Int), rfl, _, _, rfl, rfl, by show 8 ≤ sizeLine; decide, fun l0 n0 => ?_⟩
    have s0 := same_new n0 (o := .lst [.int 8, .int ((us : Int) + 1), .int ((ra : Int) + 1), .int 5, .int 5, .int 4, .int 5, .int 4])
    have h0 : (upd H l0 (.lst [.int 8, .int ((us : Int) + 1), .int ((ra : Int) + 1), .int 5, .int 5, .int 4, .int 5, .int 4])) l0 = some (.lst ((wlim us ra).map V.int)) := by rw [upd_same]; rfl
    generalize upd H l0 (.lst [.int 8, .int ((us : Int) + 1), .int ((ra : Int) + 1), .int 5, .int 5, .int 4, .int 5, .int 4]) = A1 at s0 h0 ⊢
    refine ⟨c0, l0, wlim us ra, rfl, SqL.of h0, by show 8 ≤ 1000; decide, fun l hl => by simp only [wlim, List.mem_cons, List.not_mem_nil, or_false] at hl; omega, fun A2 R rs s2 nR hR row => ?_⟩
    obtain ⟨m0, b0, e0⟩ := rowN row 0 (8) rfl
    have p0 : atI (rs.map V.int) 0 = some (.int (m0 : Int)) := by show atI _ ((0 : Nat) : Int) = _; exact atI_nat (by rw [List.getElem?_map, e0]; rfl)
    obtain ⟨m1, b1, e1⟩ := rowN row 1 (us + 1) (congrArg some (by omega : (us : Int) + 1 = ((us + 1 : Nat) : Int)))
    have p1 : atI (rs.map V.int) 1 = some (.int (m1 : Int)) := by show atI _ ((1 : Nat) : Int) = _; exact atI_nat (by rw [List.getElem?_map, e1]; rfl)
    obtain ⟨m2, b2, e2⟩ := rowN row 2 (ra + 1) (congrArg some (by omega : (ra : Int) + 1 = ((ra + 1 : Nat) : Int)))
    have p2 : atI (rs.map V.int) 2 = some (.int (m2 : Int)) := by show atI _ ((2 : Nat) : Int) = _; exact atI_nat (by rw [List.getElem?_map, e2]; rfl)
    obtain ⟨m3, b3, e3⟩ := rowN row 3 (5) rfl
    have p3 : atI (rs.map V.int) 3 = some (.int (m3 : Int)) := by show atI _ ((3 : Nat) : Int) = _; exact atI_nat (by rw [List.getElem?_map, e3]; rfl)
    obtain ⟨m4, b4, e4⟩ := rowN row 4 (5) rfl
    have p4 : atI (rs.map V.int) 4 = some (.int (m4 : Int)) := by show atI _ ((4 : Nat) : Int) = _; exact atI_nat (by rw [List.getElem?_map, e4]; rfl)
    obtain ⟨m5, b5, e5⟩ := rowN row 5 (4) rfl
    have p5 : atI (rs.map V.int) 5 = some (.int (m5 : Int)) := by show atI _ ((5 : Nat) : Int) = _; exact atI_nat (by rw [List.getElem?_map, e5]; rfl)
    obtain ⟨m6, b6, e6⟩ := rowN row 6 (5) rfl
    have p6 : atI (rs.map V.int) 6 = some (.int (m6 : Int)) := by show atI _ ((6 : Nat) : Int) = _; exact atI_nat (by rw [List.getElem?_map, e6]; rfl)
    obtain ⟨m7, b7, e7⟩ := rowN row 7 (4) rfl
    have p7 : atI (rs.map V.int) 7 = some (.int (m7 : Int)) := by show atI _ ((7 : Nat) : Int) = _; exact atI_nat (by rw [List.getElem?_map, e7]; rfl)
    have s02 := s0.trans s2
    refine ⟨.ref R, rfl, R, _, 1, .int (m1 : Int), rfl, rfl, SqL.of hR, p1, .ref R, rfl, R, _, 6, .int (m6 : Int), rfl, rfl, SqL.of hR, p6, _, _, rfl, ?_⟩
    refine ⟨(fun σ' H' => ∃ many : Nat, many ≤ 40 ∧ σ' = [some (.ref a), some (.int (us : Int)), some (.int (ra : Int)), some (.int (st : Int)), some (.ref R), some (.int (many : Int)), some (.int (m6 : Int)), none, none, none, none, none, none, none, none] ∧ A2 = H'), ?_, ?_⟩
    · refine ⟨.ref R, rfl, R, _, 0, .int (m0 : Int), rfl, rfl, SqL.of hR, p0, rfl, _, rfl, ite2 (fun _ => ⟨.ref R, rfl, R, _, 2, .int (m2 : Int), rfl, rfl, SqL.of hR, p2, m2, by omega, rfl, rfl⟩) (fun _ => ⟨m1, by omega, rfl, rfl⟩)⟩
    rintro σ' A3 ⟨many, hmany, rfl, rfl⟩
    obtain ⟨wide, w1, w2, ew⟩ := five (xs := [4, 40, 2000, 4, 1]) rfl (by decide) b3
    obtain ⟨tall, t1', t2', et⟩ := five (xs := [2, 30, 2000, 2, 1]) rfl (by decide) b4
    refine ⟨by show 5 ≤ sizeLine; decide, fun l1 n1 => ?_⟩
    have s3 := same_new n1 (o := .lst [.int 4, .int 40, .int 2000, .int 4, .int 1])
    have h1 : (upd A2 l1 (.lst [.int 4, .int 40, .int 2000, .int 4, .int 1])) l1 = some (.lst [.int 4, .int 40, .int 2000, .int 4, .int 1]) := upd_same
    generalize upd A2 l1 (.lst [.int 4, .int 40, .int 2000, .int 4, .int 1]) = A3 at s3 h1 ⊢
    have hR3 := s3 _ _ hR
    refine ⟨.ref R, rfl, R, _, 3, .int (m3 : Int), rfl, rfl, SqL.of hR3, p3, l1, _, _, .int wide, rfl, rfl, SqL.of h1, ew, by show 5 ≤ sizeLine; decide, fun l2 n2 => ?_⟩
    have s4 := same_new n2 (o := .lst [.int 2, .int 30, .int 2000, .int 2, .int 1])
    have h2 : (upd A3 l2 (.lst [.int 2, .int 30, .int 2000, .int 2, .int 1])) l2 = some (.lst [.int 2, .int 30, .int 2000, .int 2, .int 1]) := upd_same
    generalize upd A3 l2 (.lst [.int 2, .int 30, .int 2000, .int 2, .int 1]) = A4 at s4 h2 ⊢
    have hR4 := s4 _ _ hR3
    refine ⟨.ref R, rfl, R, _, 4, .int (m4 : Int), rfl, rfl, SqL.of hR4, p4, l2, _, _, .int tall, rfl, rfl, SqL.of h2, et, _, _, rfl, ?_⟩
    have s04 := s02.trans (s3.trans s4)
    refine ⟨(fun σ' H' => ∃ many : Nat, many ≤ 40 ∧ σ' = [some (.ref a), some (.int (us : Int)), some (.int (ra : Int)), some (.int (st : Int)), some (.ref R), some (.int (many : Int)), some (.int (m6 : Int)), some (.int wide), some (.int tall), none, none, none, none, none, none] ∧ A4 = H'), ?_, ?_⟩
    · refine ⟨.int tall, rfl, _, _, rfl, rfl, _, rfl, ite2 (fun _ => ⟨.int (many : Int), rfl, .int (st : Int), rfl, _, _, rfl, min many st, by omega, by rw [minE]; rfl, rfl⟩) (fun _ => ⟨many, hmany, rfl, rfl⟩)⟩
    rintro σ' A5 ⟨mn, hmn, rfl, rfl⟩
    have hS4 := Same.seq s04 hS
    have hst : ∀ H', Same A4 H' → SqL K H' a (ns.map V.int) := fun H' s => Same.seq s hS4
    refine ⟨.ref a, rfl, .ref a, ns.length, rfl, .inl ⟨_, hS4, (List.length_map _).symm⟩, _, _, rfl, rfl, _, _, rfl, _, _, rfl, ?_⟩
    obtain ⟨m, hm1, hm12, em⟩ : ∃ m : Nat, 1 ≤ m ∧ m ≤ 12 ∧ (if (if (ns.length : Int) - 3 < 12 then (ns.length : Int) - 3 else 12) > 1 then (if (ns.length : Int) - 3 < 12 then (ns.length : Int) - 3 else 12) else 1) = (m : Int) := by
      by_cases h1 : (ns.length : Int) - 3 < 12
      · rw [if_pos h1]
        by_cases h2 : (ns.length : Int) - 3 > 1
        · exact ⟨((ns.length : Int) - 3).toNat, by omega, by omega, by rw [if_pos h2]; omega⟩
        · exact ⟨1, by omega, by omega, by rw [if_neg h2]; rfl⟩
      · exact ⟨12, by omega, by omega, by rw [if_neg h1]; rfl⟩
    rw [em]
    refine ⟨_, rfl, by omega, by omega, fun D hD => ?_⟩
    rw [Int.toNat_natCast]
    refine lc_range (lo := 0) (n := m) (fun i H' => ∃ cs : List Int, H' D = some (.lst (cs.map V.int)) ∧ cs.length = i ∧ Same A4 H') ⟨[], upd_same, rfl, same_new hD⟩ ?_ ?_
    · rintro i H' hi ⟨cs, hc, hcl, sm⟩
      refine ⟨rfl, .ref a, rfl, .int (0 + (i : Int)), rfl, _, _, rfl, rfl, a, ns, _, rfl, hst _ sm, hns, by omega, fun c => ⟨_, hc, ?_, cs ++ [c], ?_, ?_, same_at sm hD⟩⟩
      · rw [List.length_map]; exact small1000 (by omega)
      · rw [upd_same, map_snoc]
      · rw [List.length_append, hcl]; rfl
    rintro A5 ⟨cs, hc, hcl, s5⟩
    refine ⟨.ref D, rfl, .int (mn : Int), rfl, .int (m6 : Int), rfl, .int wide, rfl, .int tall, rfl, D, cs, mn, (m6 : Int), wide, tall, rfl, hc, by omega, by omega, by omega, by omega, by omega, by omega, fun A6 bp bs s6 nbp hbp hbs hbl hpl hfl hok => ?_⟩
    have s46 := s5.trans s6
    have hR6 := s46 _ _ hR4
    refine ⟨(fun σ' H' => ∃ (bl : Addr) (bs : List Bk), σ' = [some (.ref a), some (.int (us : Int)), some (.int (ra : Int)), some (.int (st : Int)), some (.ref R), some (.int (mn : Int)), some (.int (m6 : Int)), some (.int wide), some (.int tall), some (.ref D), none, some (.ref bl), none, none, none] ∧ Same A6 H' ∧ H' bl = some (.lst (bv bs)) ∧ BsT H' bs ∧ bs.length ≤ 40 ∧ (pcs bs).length ≤ 40 ∧ (figs (pcs bs)).length ≤ 4 ∧ ∀ b ∈ bs, BkOk wide b), ?_, ?_⟩
    · refine ⟨.ref R, rfl, R, _, 7, .int (m7 : Int), rfl, rfl, SqL.of hR6, p7, rfl, _, rfl, ite2 (fun _ => ⟨.ref bp, rfl, bp, bs, wide, rfl, hbp, hbs, by omega, hok, w1, fun A7 p7 cs7 s7 n7 h7 hb7 hc7 hp7 hf7 ho7 => ⟨p7, cs7, rfl, s7, h7, hb7, by omega, by omega, by omega, ho7⟩⟩) (fun _ => ⟨bp, bs, rfl, Same.refl _, hbp, hbs, by omega, by omega, by omega, hok⟩)⟩
    rintro σ' A7 ⟨bl, bs, rfl, s7, hbl7, hbs7, k1, k2, k3, k4⟩
    have hR7 := s7 _ _ hR6
    have s07 := s04.trans (s46.trans s7)
    obtain ⟨dear, d1, d2, ed⟩ := four (xs := [4, 7, 50, 2001]) rfl (by decide) b5
    refine ⟨by show 4 ≤ sizeLine; decide, fun l3 n3 => ?_⟩
    have s8 := same_new n3 (o := .lst [.int 4, .int 7, .int 50, .int 2001])
    have h3 : (upd A7 l3 (.lst [.int 4, .int 7, .int 50, .int 2001])) l3 = some (.lst [.int 4, .int 7, .int 50, .int 2001]) := upd_same
    generalize upd A7 l3 (.lst [.int 4, .int 7, .int 50, .int 2001]) = A8 at s8 h3 ⊢
    refine ⟨.ref R, rfl, R, _, 5, .int (m5 : Int), rfl, rfl, SqL.of (s8 _ _ hR7), p5, l3, _, _, .int dear, rfl, rfl, SqL.of h3, ed, ?_⟩
    refine ⟨.int wide, rfl, 5, wide, rfl, rfl, .inl ⟨by decide, by decide⟩, _, _, rfl, .int tall, rfl, 5, tall, rfl, rfl, .inl ⟨by decide, by decide⟩, _, _, rfl, by show 2 ≤ sizeLine; decide, fun l5 n5 => ?_⟩
    obtain ⟨wA, wA1, wA2, ewA⟩ := minB w1
    obtain ⟨wB, wB1, wB2, ewB⟩ := minB t1'
    rw [ewA, ewB]
    have s9 := same_new n5 (o := .lst [.int wA, .int wB])
    have h5 : (upd A8 l5 (.lst [.int wA, .int wB])) l5 = some (.lst [.int wA, .int wB]) := upd_same
    generalize upd A8 l5 (.lst [.int wA, .int wB]) = A9 at s9 h5 ⊢
    refine ⟨.int dear, rfl, by show 1 ≤ sizeLine; decide, fun l6 n6 => ?_⟩
    have s10 := same_new n6 (o := .lst [.int dear])
    have h6 : (upd A9 l6 (.lst [.int dear])) l6 = some (.lst [.int dear]) := upd_same
    generalize upd A9 l6 (.lst [.int dear]) = A10 at s10 h6 ⊢
    refine ⟨l6, 6, _, rfl, rfl, h6, by decide, by decide, by show 6 ≤ sizeLine; decide, fun l7 n7 => ?_⟩
    have s11 := same_new n7 (o := .lst (List.replicate (6 : Int).toNat [V.int dear]).flatten)
    have h7 : (upd A10 l7 (.lst (List.replicate (6 : Int).toNat [V.int dear]).flatten)) l7 = some (.lst (List.replicate (6 : Int).toNat [V.int dear]).flatten) := upd_same
    generalize upd A10 l7 (.lst (List.replicate (6 : Int).toNat [V.int dear]).flatten) = A11 at s11 h7 ⊢
    refine ⟨l5, l7, _, _, rfl, rfl, s11 _ _ (s10 _ _ h5), h7, by show 8 ≤ sizeLine; decide, fun l8 n8 => ?_⟩
    have s12 := same_new n8 (o := .lst ([V.int wA, .int wB] ++ (List.replicate (6 : Int).toNat [V.int dear]).flatten))
    have h8 : (upd A11 l8 (.lst ([V.int wA, .int wB] ++ (List.replicate (6 : Int).toNat [V.int dear]).flatten))) l8 = some (.lst ([V.int wA, .int wB] ++ (List.replicate (6 : Int).toNat [V.int dear]).flatten)) := upd_same
    generalize upd A11 l8 (.lst ([V.int wA, .int wB] ++ (List.replicate (6 : Int).toNat [V.int dear]).flatten)) = A12 at s12 h8 ⊢
    refine ⟨by show 3 ≤ sizeLine; decide, fun l9 n9 => ?_⟩
    have s13 := same_new n9 (o := .lst [.int 4, .int 41, .int 2])
    have h9 : (upd A12 l9 (.lst [.int 4, .int 41, .int 2])) l9 = some (.lst [.int 4, .int 41, .int 2]) := upd_same
    generalize upd A12 l9 (.lst [.int 4, .int 41, .int 2]) = A13 at s13 h9 ⊢
    refine ⟨l8, l9, _, _, rfl, rfl, s13 _ _ h8, h9, by show 11 ≤ sizeLine; decide, fun l10 n10 => ?_⟩
    have s14 := same_new n10 (o := .lst (([V.int wA, .int wB] ++ (List.replicate (6 : Int).toNat [V.int dear]).flatten) ++ [.int 4, .int 41, .int 2]))
    have h10 : (upd A13 l10 (.lst (([V.int wA, .int wB] ++ (List.replicate (6 : Int).toNat [V.int dear]).flatten) ++ [.int 4, .int 41, .int 2]))) l10 = some (.lst ((nlim wA wB dear).map V.int)) := by rw [upd_same]; rfl
    generalize upd A13 l10 (.lst (([V.int wA, .int wB] ++ (List.replicate (6 : Int).toNat [V.int dear]).flatten) ++ [.int 4, .int 41, .int 2])) = A14 at s14 h10 ⊢
    have s714 := s8.trans (s9.trans (s10.trans (s11.trans (s12.trans (s13.trans s14)))))
    refine ⟨.ref a, rfl, a, ns, 1, rfl, Same.seq (s07.trans s714) hS, hns, by decide, fun c1 => ?_⟩
    refine ⟨.ref l10, rfl, c1, l10, nlim wA wB dear, rfl, SqL.of h10, by show 11 ≤ 1000; decide, fun l hl => by simp only [nlim, List.mem_cons, List.not_mem_nil, or_false] at hl; omega, fun A15 N0 r2 s15 nN hN row2 => ?_⟩
    obtain ⟨rl, ra'⟩ := row2
    match r2, rl with
    | [q0, q1, q2, q3, q4, q5, q6, q7, q8, q9, q10], _ =>
    obtain ⟨x0, y0, z0, w0'⟩ := ra' 0 _ rfl
    cases y0
    obtain ⟨x1, y1, z1, w1'⟩ := ra' 1 _ rfl
    cases y1
    obtain ⟨x2, y2, z2, w2'⟩ := ra' 2 _ rfl
    cases y2
    obtain ⟨x3, y3, z3, w3'⟩ := ra' 3 _ rfl
    cases y3
    obtain ⟨x4, y4, z4, w4'⟩ := ra' 4 _ rfl
    cases y4
    obtain ⟨x5, y5, z5, w5'⟩ := ra' 5 _ rfl
    cases y5
    obtain ⟨x6, y6, z6, w6'⟩ := ra' 6 _ rfl
    cases y6
    obtain ⟨x7, y7, z7, w7'⟩ := ra' 7 _ rfl
    cases y7
    obtain ⟨x8, y8, z8, w8'⟩ := ra' 8 _ rfl
    cases y8
    obtain ⟨x9, y9, z9, w9'⟩ := ra' 9 _ rfl
    cases y9
    obtain ⟨x10, y10, z10, w10'⟩ := ra' 10 _ rfl
    cases y10
    refine ⟨.ref bl, rfl, .ref N0, rfl, N0, _, 0, _, rfl, rfl, SqL.of hN, rfl, _, _, rfl, rfl, .ref N0, rfl, N0, _, 1, _, rfl, rfl, SqL.of hN, rfl, _, _, rfl, rfl, by show 2 ≤ sizeLine; decide, fun l11 n11 => ?_⟩
    have s16 := same_new n11 (o := .lst [.int (q0 + 1), .int (q1 + 1)])
    have h11 : (upd A15 l11 (.lst [.int (q0 + 1), .int (q1 + 1)])) l11 = some (.lst [.int (q0 + 1), .int (q1 + 1)]) := upd_same
    generalize upd A15 l11 (.lst [.int (q0 + 1), .int (q1 + 1)]) = A16 at s16 h11 ⊢
    refine ⟨.ref N0, rfl, 2, rfl, 8, rfl, N0, _, rfl, SqL.of (s16 _ _ hN), fun l12 n12 => ?_⟩
    have ecut : cutV ([q0, q1, q2, q3, q4, q5, q6, q7, q8, q9, q10].map V.int) (some 2) (some 8) = [.int q2, .int q3, .int q4, .int q5, .int q6, .int q7] := (cutV_mid (a := 2) (b := 8) ([q0, q1, q2, q3, q4, q5, q6, q7, q8, q9, q10].map V.int) (by show 2 ≤ 11; decide) (by show 8 ≤ 11; decide)).trans rfl
    rw [ecut]
    have s17 := same_new n12 (o := .lst [.int q2, .int q3, .int q4, .int q5, .int q6, .int q7])
    have h12 : (upd A16 l12 (.lst [.int q2, .int q3, .int q4, .int q5, .int q6, .int q7])) l12 = some (.lst [.int q2, .int q3, .int q4, .int q5, .int q6, .int q7]) := upd_same
    generalize upd A16 l12 (.lst [.int q2, .int q3, .int q4, .int q5, .int q6, .int q7]) = A17 at s17 h12 ⊢
    refine ⟨l11, l12, _, _, rfl, rfl, s17 _ _ h11, h12, by show 8 ≤ sizeLine; decide, fun l13 n13 => ?_⟩
    have s18 := same_new n13 (o := .lst ([.int (q0 + 1), .int (q1 + 1)] ++ [.int q2, .int q3, .int q4, .int q5, .int q6, .int q7]))
    have h13 : (upd A17 l13 (.lst ([.int (q0 + 1), .int (q1 + 1)] ++ [.int q2, .int q3, .int q4, .int q5, .int q6, .int q7]))) l13 = some (.lst ([.int (q0 + 1), .int (q1 + 1)] ++ [.int q2, .int q3, .int q4, .int q5, .int q6, .int q7])) := upd_same
    generalize upd A17 l13 (.lst ([.int (q0 + 1), .int (q1 + 1)] ++ [.int q2, .int q3, .int q4, .int q5, .int q6, .int q7])) = A18 at s18 h13 ⊢
    have hN18 := s18 _ _ (s17 _ _ (s16 _ _ hN))
    refine ⟨.ref N0, rfl, N0, _, 8, _, rfl, rfl, SqL.of hN18, rfl, _, _, rfl, rfl, .ref N0, rfl, N0, _, 9, _, rfl, rfl, SqL.of hN18, rfl, .ref N0, rfl, N0, _, 10, _, rfl, rfl, SqL.of hN18, rfl, rfl, by show 3 ≤ sizeLine; decide, fun l14 n14 => ?_⟩
    have s19 := same_new n14 (o := .lst [.int (q8 + 1), .int q9, .bl (decide (V.int q10 = V.int 1))])
    have h14 : (upd A18 l14 (.lst [.int (q8 + 1), .int q9, .bl (decide (V.int q10 = V.int 1))])) l14 = some (.lst [.int (q8 + 1), .int q9, .bl (decide (V.int q10 = V.int 1))]) := upd_same
    generalize upd A18 l14 (.lst [.int (q8 + 1), .int q9, .bl (decide (V.int q10 = V.int 1))]) = A19 at s19 h14 ⊢
    refine ⟨l13, l14, _, _, rfl, rfl, s19 _ _ h13, h14, by show 11 ≤ sizeLine; decide, fun l15 n15 => ?_⟩
    have s20 := same_new n15 (o := .lst (([.int (q0 + 1), .int (q1 + 1)] ++ [.int q2, .int q3, .int q4, .int q5, .int q6, .int q7]) ++ [.int (q8 + 1), .int q9, .bl (decide (V.int q10 = V.int 1))]))
    have h15 : (upd A19 l15 (.lst (([.int (q0 + 1), .int (q1 + 1)] ++ [.int q2, .int q3, .int q4, .int q5, .int q6, .int q7]) ++ [.int (q8 + 1), .int q9, .bl (decide (V.int q10 = V.int 1))]))) l15 = some (.lst [V.int (q0 + 1), .int (q1 + 1), .int q2, .int q3, .int q4, .int q5, .int q6, .int q7, .int (q8 + 1), .int q9, .bl (decide (V.int q10 = V.int 1))]) := by rw [upd_same]; rfl
    generalize upd A19 l15 (.lst (([.int (q0 + 1), .int (q1 + 1)] ++ [.int q2, .int q3, .int q4, .int q5, .int q6, .int q7]) ++ [.int (q8 + 1), .int q9, .bl (decide (V.int q10 = V.int 1))])) = A20 at s20 h15 ⊢
    refine ⟨by show 2 ≤ sizeLine; decide, fun t nt => ?_⟩
    have s21 := same_new nt (o := .tup [.ref bl, .ref l15])
    have s721 := s714.trans (s15.trans (s16.trans (s17.trans (s18.trans (s19.trans (s20.trans s21))))))
    refine q _ t bl l15 bs [V.int (q0 + 1), .int (q1 + 1), .int q2, .int q3, .int q4, .int q5, .int q6, .int q7, .int (q8 + 1), .int q9, .bl (decide (V.int q10 = V.int 1))] wide (s07.trans s721) upd_same (s721 _ _ hbl7) (hbs7.kp (Kp.of s721)) k1 k2 k3 k4 ⟨w1, w2⟩ (s21 _ _ h15) ⟨rfl, fun k v e => ?_⟩
    match k with
    | 0 => cases e; exact fitI (by decide) (by show (1 : Int) ≤ q0 + 1; omega) (by show q0 + 1 ≤ (2000 : Int); omega)
    | 1 => cases e; exact fitI (by decide) (by show (1 : Int) ≤ q1 + 1; omega) (by show q1 + 1 ≤ (2000 : Int); omega)
    | 2 => cases e; exact fitI (by decide) (by show (0 : Int) ≤ q2; omega) (by show q2 ≤ (2000 : Int); omega)
    | 3 => cases e; exact fitI (by decide) (by show (0 : Int) ≤ q3; omega) (by show q3 ≤ (2000 : Int); omega)
    | 4 => cases e; exact fitI (by decide) (by show (0 : Int) ≤ q4; omega) (by show q4 ≤ (2000 : Int); omega)
    | 5 => cases e; exact fitI (by decide) (by show (0 : Int) ≤ q5; omega) (by show q5 ≤ (2000 : Int); omega)
    | 6 => cases e; exact fitI (by decide) (by show (0 : Int) ≤ q6; omega) (by show q6 ≤ (2000 : Int); omega)
    | 7 => cases e; exact fitI (by decide) (by show (0 : Int) ≤ q7; omega) (by show q7 ≤ (2000 : Int); omega)
    | 8 => cases e; exact fitI (by decide) (by show (1 : Int) ≤ q8 + 1; omega) (by show q8 + 1 ≤ (4 : Int); omega)
    | 9 => cases e; exact fitI (by decide) (by show (0 : Int) ≤ q9; omega) (by show q9 ≤ (40 : Int); omega)
    | 10 => cases e; rfl
    | k + 11 => simp at e
end
end K37

set_option maxRecDepth 100000
set_option maxHeartbeats 8000000
namespace K37
open PySem PySem.Spec PyProof.Rows L2
/-! ### widths -/
def bl (p : Pc) : Int := if p.tw = Str.ofString "blank" then p.tn.getD 0 else 0
def jo (p : Pc) : Int := if p.tw = Str.ofString "joint" then p.tn.getD 0 else 0
def sumH (ps : List Pc) : Int := (ps.map (·.h)).sum
def sumB (ps : List Pc) : Int := (ps.map bl).sum
def natM (ps : List Pc) (ind : Int) : Int := ind + sumH ps + sumB ps.dropLast + (ps.getLast?.map jo).getD 0
def TieOk (p : Pc) : Prop := (p.tw = Str.ofString "blank" ∨ p.tw = Str.ofString "joint") → ∃ n, p.tn = some n
theorem sumH_snoc (ps : List Pc) (p : Pc) : sumH (ps ++ [p]) = sumH ps + p.h := by unfold sumH; rw [List.map_append, List.sum_append]; simp
theorem sumB_snoc (ps : List Pc) (p : Pc) : sumB (ps ++ [p]) = sumB ps + bl p := by unfold sumB; rw [List.map_append, List.sum_append]; simp
theorem natM_snoc (rs : List Pc) (q : Pc) (ind : Int) : natM (rs ++ [q]) ind = ind + sumH (rs ++ [q]) + sumB rs + jo q := by
  unfold natM
  rw [List.dropLast_concat, List.getLast?_concat]; rfl
theorem cutV_init (xs : List V) (x : V) : cutV (xs ++ [x]) none (some (-1)) = xs := by
  unfold cutV
  rw [HT.sIx_none, List.drop_zero]
  have e : HT.sIx (xs ++ [x]).length (xs ++ [x]).length (some (-1)) = xs.length := by
    show (if (-1 : Int) < 0 then ((-1 : Int) + ((xs ++ [x]).length : Int)).toNat else min (-1 : Int).toNat (xs ++ [x]).length) = _
    rw [if_pos (by decide), List.length_append, List.length_singleton]; omega
  rw [e, Nat.sub_zero]
  exact List.take_left' rfl
theorem sum_snoc (xs : List Int) (x : Int) : (xs ++ [x]).sum = xs.sum + x := by rw [List.sum_append]; simp
structure CsT (mg : Str → Option Value) (t3 t4 : Tok) : Prop where
  g_BLANK_TIE : mg "BLANK_TIE" = some (.str (Str.ofString "blank") t3)
  g_JOINT_TIE : mg "JOINT_TIE" = some (.str (Str.ofString "joint") t4)
end K37

set_option maxRecDepth 100000
set_option maxHeartbeats 8000000
namespace K37
open PySem PySem.Spec PyProof.Rows L2
/-- what a galley is asked by -/
structure GK (P : Program) (w : World) (K : PySem.W.Frag) (mg : Str → Option Value) (base : Heap) (C CN fi fl fb pp gp : Addr) (di dl db dp : FuncData) : Prop where
  it : PySem.W.findIn K (.ref C) "__iter__" = some (some (.ref fi)) ∧ PySem.W.isFn K (.ref fi) = true
  itG : RO.FnN P w K mg base CX0 1 fi di ["self"] (RO.spIt C "_blocks")
  itB : Binds K di ["self"] []
  ln : PySem.W.findIn K (.ref C) "__len__" = some (some (.ref fl)) ∧ PySem.W.typeIn K (.ref fl) = some (.type "function")
  lnG : FnOk P w K mg base CX0 1 fl dl ["self"] (spLen C)
  lnB : Binds K dl ["self"] []
  pp : PropOf K C "pieces" pp gp
  ppG : FnOk P w K mg base CX0 1 gp dp ["self"] (spPcs C)
  ppB : Binds K dp ["self"] []
  bl : Meth K C "block_at" fb
  blG : FnOk P w K mg base (L2N.CX P w) 3 fb db pBl (spBlock C CN)
  blB : Binds K db pBl []
def indM (st s : Nat) (b : Bk) : Int := if st = s then b.b else 0
def gapM (room w : Int) (il : Bool) : Int := if il = true then 0 else if w > room then 0 else room - w
def posM (x : Int) : Int := if x > 0 then x else 0
def priceM (room over joint w : Int) (il hj : Bool) : Int := gapM room w il * gapM room w il + over * posM (w - room) + if hj = true then joint else 0
def segM (bs : List Bk) (st en : Nat) : List Pc := ((pcs bs).drop st).take (en - st)
def numAt (xs : List V) (k : Nat) : Int := match xs[k]? with
  | some (.int i) => i
  | _ => 0
theorem good_num {xs : List V} (g : Bo.Good xs) {k : Nat} (hk : k < 10) : xs[k]? = some (.int (numAt xs k)) ∧ Bo.los.getD k 0 ≤ numAt xs k ∧ numAt xs k ≤ Bo.his.getD k 0 := by
  have e : xs[k]? = some (xs[k]'(by rw [g.1]; omega)) := List.getElem?_eq_getElem _
  have hf := g.2 k _ e
  unfold numAt
  rw [e]
  generalize xs[k]'(by rw [g.1]; omega) = v at hf
  cases v with
  | int i =>
    have h : (decide (k < 10) && (decide (Bo.los.getD k 0 ≤ i) && decide (i ≤ Bo.his.getD k 0))) = true := hf
    rw [Bool.and_eq_true, Bool.and_eq_true] at h
    exact ⟨rfl, of_decide_eq_true h.2.1, of_decide_eq_true h.2.2⟩
  | bl b => exact absurd (of_decide_eq_true hf) (by omega)
  | _ => cases hf
theorem lk_of {xs : List V} (g : Bo.Good xs) (w : Addr) : (Bo.fsB xs w).lookup ("room" : Str) = some (.int (numAt xs 0)) ∧ (Bo.fsB xs w).lookup ("joint" : Str) = some (.int (numAt xs 2)) ∧ (Bo.fsB xs w).lookup ("over" : Str) = some (.int (numAt xs 3)) := by
  have n0 := (good_num g (k := 0) (by decide)).1
  have n2 := (good_num g (k := 2) (by decide)).1
  have n3 := (good_num g (k := 3) (by decide)).1
  generalize numAt xs 0 = a at n0 ⊢
  generalize numAt xs 2 = b at n2 ⊢
  generalize numAt xs 3 = c at n3 ⊢
  obtain ⟨x0, x1, x2, x3, x4, x5, x6, x7, x8, x9, x10, rfl⟩ := Bo.len11 g.1
  cases n0; cases n2; cases n3
  exact ⟨rfl, rfl, rfl⟩
section
variable {P : Program} {w : World} {K : PySem.W.Frag} {mg : Str → Option Value} {base : Heap} {t3 t4 : Tok} {C CN CB FT fi fl fb pp gp : Addr} {mc u : Value} {di dl db dp : FuncData}
/-! ### gap_in, price_of_line -/
def spGap (CB : Addr) : Sp := fun vs H Q _ => ∃ (b : Addr) (xs : List V) (wd : Int) (il : Bool), vs = [.ref b, .int wd, .bl il] ∧ Bo.BookA CB H b xs ∧ Bo.Good xs ∧ Q (.int (gapM (numAt xs 0) wd il)) H
abbrev pGi : List Str := ["book", "width", "is_last"]
theorem scGi : FnScope pGi pGi (defScope sGapIn) := ⟨rfl, rfl, rfl, by decide +kernel, rfl, by decide +kernel, by decide +kernel⟩
theorem ok_gap {f : Addr} {fd : FuncData} (TB : Bo.Bok K mg CB FT mc u) (F : Fun K "gap_in" "gap_in" sGapIn f fd) : FnOk P w K mg base CX0 1 f fd pGi (spGap CB) := by
  refine F.ok scGi (fun vs H Q E h => ?_) (fun cdv A0 outer s H vs Q E hr h => ?_)
  · obtain ⟨b, xs, wd, il, rfl, _⟩ := h; rfl
  · obtain ⟨b, xs, wd, il, rfl, ⟨dx, w0, hb, hw⟩, g, q⟩ := h
    obtain ⟨k0, k2, k3⟩ := lk_of g w0
    refine ⟨_, (pss_cons (ps_if (PW.pt (pw_or (pt_val (pv 2)) (pw_or1 (pt_cmpR op_gt (pv 1) (pe_fld (pv 0) rfl) (nomark _)))))
      (pss_one (ps_ret pe_int))
      pss_nil)
      (pss_one (ps_ret (pe_op op_sub (pe_fld (pv 0) rfl) (pv 1))))), ?_⟩
    refine ⟨.bl il, rfl, il, rfl, ite2 (fun h => ?_) (fun h => ?_)⟩
    · unfold gapM at q; rw [if_pos h] at q; exact q
    unfold gapM at q; rw [if_neg h] at q
    refine ⟨.int wd, rfl, .ref b, rfl, b, CB, _, _, .int (numAt xs 0), rfl, hb, TB.cl, TB.n_room, k0, _, _, rfl, rfl, _, rfl, ite2 (fun h2 => ?_) (fun h2 => ?_)⟩
    · rw [if_pos (of_decide_eq_true h2)] at q; exact q
    · rw [if_neg (fun z => h2 (decide_eq_true z))] at q
      exact ⟨.ref b, rfl, b, CB, _, _, .int (numAt xs 0), rfl, hb, TB.cl, TB.n_room, k0, .int wd, rfl, _, _, rfl, rfl, q⟩
def spPr (CB : Addr) : Sp := fun vs H Q _ => ∃ (b : Addr) (xs : List V) (wd : Int) (il hj : Bool), vs = [.ref b, .int wd, .bl il, .bl hj] ∧ Bo.BookA CB H b xs ∧ Bo.Good xs ∧ 0 ≤ wd ∧ Q (.int (priceM (numAt xs 0) (numAt xs 3) (numAt xs 2) wd il hj)) H
abbrev pPr : List Str := ["book", "width", "is_last", "has_joint"]
theorem scPr : FnScope ["book", "width", "is_last", "has_joint", "gap", "cost"] pPr (defScope sPrice) := ⟨rfl, rfl, rfl, by decide +kernel, rfl, by decide +kernel, by decide +kernel⟩
theorem gap_bound {room w : Int} {il : Bool} (h1 : 1 ≤ room) (h2 : room ≤ 2000) (h3 : 0 ≤ w) : 0 ≤ gapM room w il ∧ gapM room w il ≤ 2000 := by
  unfold gapM
  split
  · omega
  · split <;> omega
theorem ok_pr {f f_gap_in : Addr} {fd fd_gap_in : FuncData} (B : Blt mg) (TB : Bo.Bok K mg CB FT mc u) (F : Fun K "price_of_line" "price_of_line" sPrice f fd) (F_gap_in : Fun K "gap_in" "gap_in" sGapIn f_gap_in fd_gap_in) (b_gap_in : Binds K fd_gap_in pGi []) (g_gap_in : mg "gap_in" = some (.ref f_gap_in)) : FnOk P w K mg base CX0 2 f fd pPr (spPr CB) := by
  have G_gap_in : FnOk P w K mg base CX0 1 f_gap_in fd_gap_in pGi (spGap CB) := ok_gap TB F_gap_in
  refine F.ok scPr (fun vs H Q E h => ?_) (fun cdv A0 outer s H vs Q E hr h => ?_)
  · obtain ⟨b, xs, wd, il, hj, rfl, _⟩ := h; rfl
  · obtain ⟨b, xs, wd, il, hj, rfl, hB, g, hw0, q⟩ := h
    obtain ⟨dx, w0, hb, hw⟩ := id hB
    obtain ⟨k0, k2, k3⟩ := lk_of g w0
    obtain ⟨_, r1, r2⟩ := good_num g (k := 0) (by decide)
    obtain ⟨_, o1, o2⟩ := good_num g (k := 3) (by decide)
    have r1 : 1 ≤ numAt xs 0 := r1
    have r2 : numAt xs 0 ≤ 2000 := r2
    have o1 : 0 ≤ numAt xs 3 := o1
    have o2 : numAt xs 3 ≤ 2000 := o2
    obtain ⟨g1, g2⟩ := gap_bound (il := il) r1 r2 hw0
    refine ⟨_, (pss_cons (ps_set (i := 4) scPr.nd rfl (.inl rfl) (pe_call G_gap_in hr (by rfl) g_gap_in F_gap_in.kp b_gap_in .nil pass0 (pa_cons (pv 0) (pa_cons (pv 1) (pa_cons (pv 2) pa_nil)))))
      (pss_cons (ps_set (i := 5) scPr.nd rfl (.inl rfl) (pe_op op_add (pe_op op_mul (pv 4) (pv 4)) (pe_op op_mul (pe_fld (pv 0) rfl) (pe_callB (call_max2 rfl) (by rfl) B.max (by decide +kernel) (pa_cons pe_int (pa_cons (pe_op op_sub (pv 1) (pe_fld (pv 0) rfl)) pa_nil))))))
      (pss_one (ps_ret (pe_ifExp (pt_val (pv 3)) (pe_op op_add (pv 5) (pe_fld (pv 0) rfl)) (pv 5)))))), ?_⟩
    refine ⟨.ref b, rfl, .int wd, rfl, .bl il, rfl, b, xs, wd, il, rfl, hB, g, ?_⟩
    unfold priceM at q
    generalize gapM (numAt xs 0) wd il = gp' at q g1 g2 ⊢
    refine ⟨.int gp', rfl, .int gp', rfl, _, _, rfl, rfl, .inl ⟨by omega, by omega⟩, .ref b, rfl, b, CB, _, _, .int (numAt xs 3), rfl, hb, TB.cl, TB.n_over, k3, .int wd, rfl, .ref b, rfl, b, CB, _, _, .int (numAt xs 0), rfl, hb, TB.cl, TB.n_room, k0, _, _, rfl, rfl, _, _, rfl, _, _, rfl, rfl, .inl ⟨by omega, by omega⟩, _, _, rfl, rfl, ?_⟩
    refine ⟨.bl hj, rfl, hj, rfl, ite2 (fun h => ?_) (fun h => ?_)⟩
    · rw [if_pos h] at q
      exact ⟨.int _, rfl, .ref b, rfl, b, CB, _, _, .int (numAt xs 2), rfl, hb, TB.cl, TB.n_joint, k2, _, _, rfl, rfl, q⟩
    · rw [if_neg h, Int.add_zero] at q
      exact ⟨.int _, rfl, q⟩
/-! ### line_width -/
/-- a line of a galley -/
structure LineAt (bs : List Bk) (st en k s e : Nat) (b : Bk) : Prop where
  small : Small bs
  ties : ∀ p ∈ pcs bs, TieOk p
  sp : (spans 0 0 bs)[st]? = some (k, s, e)
  sp2 : (spans 0 0 bs)[en - 1]? = some (k, s, e)
  bk : bs[k]? = some b
  lt : st < en
  le : en ≤ (pcs bs).length
theorem LineAt.seg {bs : List Bk} {st en k s e : Nat} {b : Bk} (h : LineAt bs st en k s e b) : ∃ rs q, segM bs st en = rs ++ [q] ∧ (pcs bs)[en - 1]? = some q := by
  have hl : (segM bs st en).length = en - st := by
    unfold segM
    rw [List.length_take, List.length_drop]; have := h.le; have := h.lt; omega
  have hne : segM bs st en ≠ [] := fun z => by rw [z] at hl; have := h.lt; rw [List.length_nil] at hl; omega
  obtain ⟨rs, q, e⟩ := last_split hne
  refine ⟨rs, q, e, ?_⟩
  have h1 : (segM bs st en)[en - st - 1]? = some q := by
    rw [e] at hl ⊢
    rw [List.length_append, List.length_singleton] at hl
    rw [List.getElem?_append_right (by omega), show en - st - 1 - rs.length = 0 by omega]; rfl
  unfold segM at h1
  have := h.lt
  rw [List.getElem?_take_of_lt (by omega), List.getElem?_drop, show st + (en - st - 1) = en - 1 by omega] at h1
  exact h1
theorem seg_mem {bs : List Bk} {st en : Nat} {p : Pc} (h : p ∈ segM bs st en) : p ∈ pcs bs := List.mem_of_mem_drop (List.mem_of_mem_take h)
end
end K37

set_option maxRecDepth 100000
set_option maxHeartbeats 8000000
namespace K37
open PySem PySem.Spec PyProof.Rows L2
/-! ### what the spans say -/
theorem spans_at : ∀ {bs : List Bk} {k0 s0 j k s e : Nat}, (spans k0 s0 bs)[j]? = some (k, s, e) → ∃ b, k0 ≤ k ∧ bs[k - k0]? = some b ∧ s0 ≤ s ∧ s ≤ s0 + j ∧ s0 + j < e ∧ e ≤ s0 + (pcs bs).length ∧ ∀ j', s ≤ s0 + j' → s0 + j' < e → (spans k0 s0 bs)[j']? = some (k, s, e)
  | [], _, _, _, _, _, _, h => nomatch h
  | b :: bs, k0, s0, j, k, s, e, h => by
    have h : (List.replicate b.ps.length (k0, s0, s0 + b.ps.length) ++ spans (k0 + 1) (s0 + b.ps.length) bs)[j]? = some (k, s, e) := h
    have el : (pcs (b :: bs)).length = b.ps.length + (pcs bs).length := by show (b.ps ++ pcs bs).length = _; rw [List.length_append]
    by_cases hj : j < b.ps.length
    · rw [List.getElem?_append_left (by rw [List.length_replicate]; exact hj), List.getElem?_replicate, if_pos hj] at h
      cases h
      refine ⟨b, Nat.le_refl _, by rw [Nat.sub_self]; rfl, Nat.le_refl _, by omega, by omega, by omega, fun j' h1 h2 => ?_⟩
      show (List.replicate b.ps.length (k0, s0, s0 + b.ps.length) ++ _)[j']? = _
      rw [List.getElem?_append_left (by rw [List.length_replicate]; omega), List.getElem?_replicate, if_pos (by omega)]
    · rw [List.getElem?_append_right (by rw [List.length_replicate]; omega), List.length_replicate] at h
      obtain ⟨b', h1, h2, h3, h4, h5, h6, h7⟩ := spans_at h
      refine ⟨b', by omega, by rw [show k - k0 = (k - (k0 + 1)) + 1 by omega]; exact h2, by omega, by omega, by omega, by omega, fun j' g1 g2 => ?_⟩
      show (List.replicate b.ps.length (k0, s0, s0 + b.ps.length) ++ _)[j']? = _
      rw [List.getElem?_append_right (by rw [List.length_replicate]; omega), List.length_replicate]
      exact h7 (j' - b.ps.length) (by omega) (by omega)
/-- a piece whose tie and widths count -/
def NnOk (p : Pc) : Prop := TieOk p ∧ 0 ≤ p.h ∧ 0 ≤ p.tn.getD 0
theorem PsOk.nn {m : Int} {ps : List Pc} (h : PsOk m ps) : ∀ p ∈ ps, NnOk p := fun p hp => by
  obtain ⟨j, hj⟩ := List.getElem?_of_mem hp
  obtain ⟨⟨a, _⟩, b, c⟩ := h j p hj
  cases hd : decide (j + 1 = ps.length) with
  | true =>
    obtain ⟨e1, e2⟩ := b hd
    refine ⟨fun z => ?_, by omega, by rw [e2]; exact Int.le_refl _⟩
    rw [e1] at z
    exact absurd z (by decide +kernel)
  | false =>
    obtain ⟨e1, n, e2, e3, _⟩ := c hd
    exact ⟨fun _ => ⟨n, e2⟩, by omega, by rw [e2]; exact e3⟩
theorem bks_nn {m : Int} {bs : List Bk} (h : ∀ b ∈ bs, BkOk m b) : ∀ p ∈ pcs bs, NnOk p := fun p hp => by
  obtain ⟨b, hb, hp⟩ := List.mem_flatMap.mp hp
  exact (h b hb).2.2.nn p hp
theorem sum_nn {α : Type} (f : α → Int) : ∀ {l : List α}, (∀ x ∈ l, 0 ≤ f x) → 0 ≤ (l.map f).sum
  | [], _ => Int.le_refl _
  | x :: l, h => by
    rw [List.map_cons, List.sum_cons]
    have := h x List.mem_cons_self
    have := sum_nn f (l := l) fun y hy => h y (List.mem_cons_of_mem _ hy)
    omega
theorem natM_nn {ps : List Pc} {ind : Int} (h : ∀ p ∈ ps, NnOk p) (hi : 0 ≤ ind) : 0 ≤ natM ps ind := by
  have h1 : 0 ≤ sumH ps := sum_nn _ fun p hp => (h p hp).2.1
  have h2 : 0 ≤ sumB ps.dropLast := sum_nn _ fun p hp => by
    have := (h p (List.dropLast_subset _ hp)).2.2
    unfold bl; split
    · exact this
    · exact Int.le_refl _
  have h3 : 0 ≤ (ps.getLast?.map jo).getD 0 := by
    cases e : ps.getLast? with
    | none => exact Int.le_refl _
    | some p =>
      have := (h p (List.mem_of_getLast? e)).2.2
      show 0 ≤ jo p
      unfold jo; split
      · exact this
      · exact Int.le_refl _
  unfold natM; omega
/-! ### _law_flat -/
def FlatT (H : Hp) (fs : List V) (ps : List Pc) (sp : List (Nat × Nat × Nat)) : Prop := fs.length = ps.length ∧ ps.length = sp.length ∧ ∀ (j : Nat) (p : Pc) (k s e : Nat), ps[j]? = some p → sp[j]? = some (k, s, e) → ∃ t : Addr, fs[j]? = some (.ref t) ∧ H t = some (.tup [.ref p.t, .int (k : Int), .int (s : Int), .int (e : Int)])
theorem FlatT.kp {H H' : Hp} {fs : List V} {ps : List Pc} {sp : List (Nat × Nat × Nat)} (h : FlatT H fs ps sp) (s : Kp H H') : FlatT H' fs ps sp := ⟨h.1, h.2.1, fun j p k s' e h1 h2 => let ⟨t, a, b⟩ := h.2.2 j p k s' e h1 h2; ⟨t, a, s.tup b⟩⟩
theorem FlatT.snoc {H : Hp} {fs : List V} {ps : List Pc} {sp : List (Nat × Nat × Nat)} (h : FlatT H fs ps sp) {t : Addr} {p : Pc} {k s e : Nat} (ht : H t = some (.tup [.ref p.t, .int (k : Int), .int (s : Int), .int (e : Int)])) : FlatT H (fs ++ [.ref t]) (ps ++ [p]) (sp ++ [(k, s, e)]) := by
  obtain ⟨h1, h2, h3⟩ := h
  refine ⟨by rw [List.length_append, List.length_append, h1]; rfl, by rw [List.length_append, List.length_append, h2]; rfl, fun j q k' s' e' a b => ?_⟩
  by_cases hj : j < ps.length
  · rw [List.getElem?_append_left hj] at a
    rw [List.getElem?_append_left (by omega)] at b
    rw [List.getElem?_append_left (by omega)]
    exact h3 j q k' s' e' a b
  · have hl := (List.getElem?_eq_some_iff.mp a).1
    rw [List.length_append, List.length_singleton] at hl
    have ej : j = ps.length := by omega
    subst ej
    rw [List.getElem?_append_right (Nat.le_refl _), Nat.sub_self] at a
    rw [List.getElem?_append_right (by omega), ← h2, Nat.sub_self] at b
    cases a; cases b
    refine ⟨t, ?_, ht⟩
    rw [List.getElem?_append_right (by omega), h1, Nat.sub_self]; rfl
section
variable {P : Program} {w : World} {K : PySem.W.Frag} {mg : Str → Option Value} {base : Heap} {t3 t4 : Tok}
def spFl : Sp := fun vs H Q _ => ∃ (a : Addr) (bs : List Bk), vs = [.ref a] ∧ H a = some (.lst (bv bs)) ∧ BsT H bs ∧ Small bs ∧ ∀ H' p fs, Same H H' → H p = none → H' p = some (.lst fs) → FlatT H' fs (pcs bs) (spans 0 0 bs) → Q (.ref p) H'
abbrev nFl : List Str := ["_law_blocks", "_law_flat_here", "_law_b", "_law_start", "_law_piece"]
theorem scFl : FnScope nFl ["_law_blocks"] (defScope sFlat) := ⟨rfl, rfl, rfl, by decide +kernel, rfl, by decide +kernel, by decide +kernel⟩
theorem ok_flat {f : Addr} {fd : FuncData} (B : Blt mg) (F : Fun K "_law_flat" "_law_flat" sFlat f fd) : FnOk P w K mg base CX0 1 f fd ["_law_blocks"] spFl := by
  refine F.ok scFl (fun vs H Q E h => ?_) (fun cdv A0 outer s H vs Q E hr h => ?_)
  · obtain ⟨a, bs, rfl, _⟩ := h; rfl
  · obtain ⟨a, bs, rfl, ha, hb, ⟨hs1, hs2⟩, q⟩ := h
    refine ⟨_, (pss_cons (ps_set (i := 1) scFl.nd rfl (.inl rfl) (pe_lst pa_nil))
      (pss_cons (ps_for (PassesOwn.never) rfl (pi_range1 (by rfl) B.range (pa_cons (pe_callB call_len (by rfl) B.len PySem.boot_len (pa_cons (pv 0) pa_nil)) pa_nil)) (pg_name (i := 2) scFl.nd rfl (.inl rfl))
      (pss_cons (ps_set (i := 3) scFl.nd rfl (.inl rfl) (pe_callB call_len (by rfl) B.len PySem.boot_len (pa_cons (pv 1) pa_nil)))
       (pss_one (ps_for (PassesOwn.never) rfl (pi_tup (pe_ix ix_tup (pe_ix ix_list (pv 0) (pv 2) (fun _ _ => rfl)) pe_int (fun _ _ => rfl))) (pg_name (i := 4) scFl.nd rfl (.inl rfl))
       (pss_one (ps_expr (pe_bm PySem.F.plainAttrs_list PySem.F.slot_list_append PySem.F.type_list_append mt_append (pv 1) (pa_cons (pe_tup (pa_cons (pv 4) (pa_cons (pv 2) (pa_cons (pv 3) (pa_cons (pe_op op_add (pv 3) (pe_callB call_len (by rfl) B.len PySem.boot_len (pa_cons (pe_ix ix_tup (pe_ix ix_list (pv 0) (pv 2) (fun _ _ => rfl)) pe_int (fun _ _ => rfl)) pa_nil))) pa_nil))))) pa_nil))))))))
      (pss_one (ps_ret (pv 1))))), ?_⟩
    refine ⟨Nat.zero_le _, fun O nO => ?_⟩
    have s0 := same_new nO (o := .lst [])
    have hO : (upd H O (.lst [])) O = some (.lst []) := upd_same
    generalize upd H O (.lst []) = H0 at s0 hO ⊢
    refine ⟨.ref a, rfl, .ref a, bs.length, rfl, .inl ⟨_, SqL.of (s0 _ _ ha), (bv_len _).symm⟩, (bs.length : Int), rfl, by omega, by omega, ?_⟩
    rw [Int.toNat_natCast]
    refine for_range (lo := 0) (n := bs.length) (fun i σ H' => ∃ (y2 y3 y4 : Option V) (fs : List V), σ = [some (.ref a), some (.ref O), y2, y3, y4] ∧ Same H H' ∧ H' O = some (.lst fs) ∧ FlatT H' fs (pcs (bs.take i)) (spans 0 0 (bs.take i))) ⟨none, none, none, [], rfl, s0, hO, ⟨rfl, rfl, fun j p k s e h => nomatch h⟩⟩ ?_ ?_
    · rintro i σ H' hi ⟨y2, y3, y4, fs, rfl, sm, hO, hT⟩
      have e0 : (0 : Int) + (i : Int) = (i : Int) := by omega
      rw [e0]
      have en : bs[i]? = some bs[i] := List.getElem?_eq_getElem hi
      generalize bs[i] = b at en
      have hbm := List.mem_of_getElem? en
      obtain ⟨h1, h2, h3, h4⟩ := (hb b hbm).kp (Kp.of sm)
      have hfl : fs.length = (pcs (bs.take i)).length := hT.1
      have hle := flat_le (·.ps) en
      have hle2 : (pcs (bs.take i)).length + b.ps.length ≤ 200 := by unfold pcs at hs2 ⊢; omega
      have eT : pcs (bs.take (i + 1)) = pcs (bs.take i) ++ b.ps := pcs_take en
      rw [eT, spans_take en]
      refine ⟨.ref O, rfl, .ref O, fs.length, rfl, .inl ⟨_, SqL.of hO, rfl⟩, ?_⟩
      rw [hfl]
      generalize hS : (pcs (bs.take i)).length = S at hfl hle2 ⊢
      refine ⟨.ref a, rfl, .int (i : Int), rfl, a, _, (i : Int), .ref b.t, rfl, rfl, SqL.of (sm _ _ ha), atI_nat (bv_at en), b.t, _, 4, .ref b.pt, rfl, rfl, SqT.of h1, rfl, b.pt, rfl, ⟨_, SqT.of h2⟩, for_tup (K := K) (a := b.pt) (xs := pv' b.ps) (fun j σ H' => ∃ (y4 : Option V) (fs : List V), σ = [some (.ref a), some (.ref O), some (.int (i : Int)), some (.int (S : Int)), y4] ∧ Same H H' ∧ H' O = some (.lst fs) ∧ FlatT H' fs (pcs (bs.take i) ++ b.ps.take j) (spans 0 0 (bs.take i) ++ List.replicate j (i, S, S + b.ps.length))) ⟨_, fs, rfl, sm, hO, by rw [List.take_zero, List.append_nil]; show FlatT _ _ _ (_ ++ []); rw [List.append_nil]; exact hT⟩ (fun j σ H' _ ⟨_, _, _, sm', _⟩ => SqT.of (((hb b hbm).kp (Kp.of sm')).2.1)) ?_ ?_⟩
      · rintro j x σ H1 hj ⟨y4, fs, rfl, sm1, hO1, hT1⟩
        obtain ⟨p, ep, rfl⟩ := of_pv hj
        have hjl := (List.getElem?_eq_some_iff.mp ep).1
        obtain ⟨h1, h2, h3, h4⟩ := (hb b hbm).kp (Kp.of sm1)
        have hfl1 : fs.length = S + j := by rw [hT1.1, List.length_append, List.length_take, hS]; omega
        refine ⟨.ref O, rfl, .inl ⟨rfl, _, SqL.of hO1⟩, .ref p.t, rfl, .int (i : Int), rfl, .int (S : Int), rfl, .int (S : Int), rfl, .ref a, rfl, .int (i : Int), rfl, a, _, (i : Int), .ref b.t, rfl, rfl, SqL.of (sm1 _ _ ha), atI_nat (bv_at en), b.t, _, 4, .ref b.pt, rfl, rfl, SqT.of h1, rfl, .ref b.pt, b.ps.length, rfl, .inr ⟨_, SqT.of h2, (pv_len _).symm⟩, _, _, rfl, rfl, by show 4 ≤ sizeLine; decide, fun t nt => ?_⟩
        have st := same_new nt (o := .tup [.ref p.t, .int (i : Int), .int (S : Int), .int ((S : Int) + (b.ps.length : Int))])
        have ht : (upd H1 t (.tup [.ref p.t, .int (i : Int), .int (S : Int), .int ((S : Int) + (b.ps.length : Int))])) t = some (.tup [.ref p.t, .int (i : Int), .int (S : Int), .int ((S + b.ps.length : Nat) : Int)]) := by rw [upd_same, Int.natCast_add]
        generalize upd H1 t (.tup [.ref p.t, .int (i : Int), .int (S : Int), .int ((S : Int) + (b.ps.length : Int))]) = H2 at st ht ⊢
        have hO2 := st _ _ hO1
        have kp : Kp H2 (upd H2 O (.lst (fs ++ [.ref t]))) := Kp.but hO2 (fun z => z) upd_but
        refine ⟨O, _, .ref t, rfl, rfl, hO2, small1000 (by omega), _, _, rfl, same_at (sm1.trans st) nO, upd_same, ?_⟩
        have := (hT1.kp (Kp.of st)).snoc (p := p) ht
        rw [List.append_assoc, List.append_assoc] at this
        rw [List.take_add_one, ep, List.replicate_succ']
        exact this.kp kp
      · rintro σ H1 ⟨y4, fs, rfl, sm1, hO1, hT1⟩
        rw [pv_len, List.take_length] at hT1
        exact ⟨_, _, _, fs, rfl, sm1, hO1, hT1⟩
    · rintro σ H1 ⟨y2, y3, y4, fs, rfl, s1, hO1, hT⟩
      rw [List.take_length] at hT
      exact ⟨.ref O, rfl, q H1 O fs s1 nO hO1 hT⟩
end
end K37

set_option maxRecDepth 100000
set_option maxHeartbeats 8000000
namespace K37
open PySem PySem.Spec PyProof.Rows L2
section
variable {P : Program} {w : World} {K : PySem.W.Frag} {mg : Str → Option Value} {base : Heap} {t3 t4 : Tok}
def spWi : Sp := fun vs H Q _ => ∃ (a f : Addr) (bs : List Bk) (fs : List V) (st en k s e : Nat) (b : Bk), vs = [.ref a, .ref f, .int (st : Int), .int (en : Int)] ∧ H a = some (.lst (bv bs)) ∧ BsT H bs ∧ H f = some (.lst fs) ∧ FlatT H fs (pcs bs) (spans 0 0 bs) ∧ LineAt bs st en k s e b ∧ Q (.int (natM (segM bs st en) (indM st s b))) H
abbrev pWi : List Str := ["_law_blocks", "_law_flat_here", "_law_start", "_law_end"]
abbrev nWi : List Str := ["_law_blocks", "_law_flat_here", "_law_start", "_law_end", "_law_total", "_law_k", "_law_piece"]
theorem scWi : FnScope nWi pWi (defScope sWidthL) := ⟨rfl, rfl, rfl, by decide +kernel, rfl, by decide +kernel, by decide +kernel⟩
theorem ok_wid {f : Addr} {fd : FuncData} (B : Blt mg) (F : Fun K "_law_width" "_law_width" sWidthL f fd) : FnOk P w K mg base CX0 1 f fd pWi spWi := by
  refine F.ok scWi (fun vs H Q E h => ?_) (fun cdv A0 outer s H vs Q E hr h => ?_)
  · obtain ⟨a, f, bs, fs, st, en, k, s, e, b, rfl, _⟩ := h; rfl
  · obtain ⟨a, f, bs, fs, st, en, k, s, e, b, rfl, ha, hb, hf, hT, L, q⟩ := h
    obtain ⟨rs, ql, es, hq⟩ := L.seg
    have lle := L.le
    have llt := L.lt
    have hsm := L.small.2
    have hsl : (rs ++ [ql]).length = en - st := by
      rw [← es]; unfold segM
      rw [List.length_take, List.length_drop]; omega
    rw [List.length_append, List.length_singleton] at hsl
    have hat : ∀ i p, (rs ++ [ql])[i]? = some p → (pcs bs)[st + i]? = some p := fun i p h => by
      have hi := (List.getElem?_eq_some_iff.mp h).1
      rw [List.length_append, List.length_singleton] at hi
      rw [← es] at h
      unfold segM at h
      rw [List.getElem?_take_of_lt (by omega), List.getElem?_drop] at h
      exact h
    have hsp : ∀ {j : Nat}, j < (pcs bs).length → ∃ k s e, (spans 0 0 bs)[j]? = some (k, s, e) := fun {j} hj => by
      have hl : j < (spans 0 0 bs).length := by rw [spans_len]; exact hj
      exact ⟨_, _, _, List.getElem?_eq_getElem hl⟩
    have hfl : ∀ {j : Nat} {p : Pc}, (pcs bs)[j]? = some p → ∃ (t : Addr) (k s e : Nat), fs[j]? = some (.ref t) ∧ H t = some (.tup [.ref p.t, .int (k : Int), .int (s : Int), .int (e : Int)]) := fun {j p} hp => by
      obtain ⟨k, s, e, h⟩ := hsp (List.getElem?_eq_some_iff.mp hp).1
      obtain ⟨t, h1, h2⟩ := hT.2.2 j p k s e hp h
      exact ⟨t, k, s, e, h1, h2⟩
    refine ⟨_, (pss_cons (ps_set (i := 4) scWi.nd rfl (.inl rfl) pe_int)
      (pss_cons (ps_for (PassesOwn.never) rfl (pi_range2 (by rfl) B.range (pa_cons (pv 2) (pa_cons (pv 3) pa_nil))) (pg_name (i := 5) scWi.nd rfl (.inl rfl))
      (pss_cons (ps_set (i := 6) scWi.nd rfl (.inl rfl) (pe_ix ix_tup (pe_ix ix_list (pv 1) (pv 5) (fun _ _ => rfl)) pe_int (fun _ _ => rfl)))
       (pss_cons (ps_set (i := 4) scWi.nd rfl (.inl rfl) (pe_op op_add (pv 4) (pe_ix ix_tup (pv 6) pe_int (fun _ _ => rfl))))
       (pss_one (ps_if (PW.pt (pw_and (pt_cmpR op_lt (pv 5) (pe_op op_sub (pv 3) pe_int) (nomark _)) (pw_and1 (pt_cmpR op_eq (pe_ix ix_tup (pe_ix ix_tup (pv 6) pe_int (fun _ _ => rfl)) pe_int (fun _ _ => rfl)) pe_str (nomark _)))))
       (pss_one (ps_set (i := 4) scWi.nd rfl (.inl rfl) (pe_op op_add (pv 4) (pe_ix ix_tup (pe_ix ix_tup (pv 6) pe_int (fun _ _ => rfl)) pe_int (fun _ _ => rfl)))))
       pss_nil)))))
      (Evl.pss_cut (ps_if (pt_cmpR op_eq (pe_ix ix_tup (pe_ix ix_tup (pe_ix ix_tup (pe_ix ix_list (pv 1) (pe_op op_sub (pv 3) pe_int) (fun _ _ => rfl)) pe_int (fun _ _ => rfl)) pe_int (fun _ _ => rfl)) pe_int (fun _ _ => rfl)) pe_str (nomark _))
      (pss_one (ps_set (i := 4) scWi.nd rfl (.inl rfl) (pe_op op_add (pv 4) (pe_ix ix_tup (pe_ix ix_tup (pe_ix ix_tup (pe_ix ix_list (pv 1) (pe_op op_sub (pv 3) pe_int) (fun _ _ => rfl)) pe_int (fun _ _ => rfl)) pe_int (fun _ _ => rfl)) pe_int (fun _ _ => rfl)))))
      pss_nil)
      (pss_cons (ps_if (pt_cmpR op_eq (pv 2) (pe_ix ix_tup (pe_ix ix_list (pv 1) (pv 2) (fun _ _ => rfl)) pe_int (fun _ _ => rfl)) (nomark _))
      (pss_one (ps_set (i := 4) scWi.nd rfl (.inl rfl) (pe_op op_add (pv 4) (pe_ix ix_tup (pe_ix ix_list (pv 0) (pe_ix ix_tup (pe_ix ix_list (pv 1) (pv 2) (fun _ _ => rfl)) pe_int (fun _ _ => rfl)) (fun _ _ => rfl)) pe_int (fun _ _ => rfl)))))
      pss_nil)
      (pss_one (ps_ret (pv 4))))))), ?_⟩
    refine ⟨.int (st : Int), rfl, .int (en : Int), rfl, (st : Int), (en : Int), rfl, ⟨by omega, by omega, by omega, by omega⟩, ?_⟩
    have eN : ((en : Int) - (st : Int)).toNat = en - st := by omega
    rw [eN]
    have ee : (en : Int) - 1 = ((en - 1 : Nat) : Int) := by omega
    refine for_range (lo := (st : Int)) (n := en - st) (fun i σ H' => ∃ (y5 y6 : Option V), σ = [some (.ref a), some (.ref f), some (.int (st : Int)), some (.int (en : Int)), some (.int (sumH ((rs ++ [ql]).take i) + sumB (rs.take i))), y5, y6] ∧ H' = H) ⟨none, none, rfl, rfl⟩ ?_ ?_
    · rintro i σ H' hi ⟨y5, y6, rfl, rfl⟩
      have e0 : (st : Int) + (i : Int) = ((st + i : Nat) : Int) := by omega
      rw [e0]
      have hi' : i < (rs ++ [ql]).length := by rw [List.length_append, List.length_singleton]; omega
      have ep : (rs ++ [ql])[i]? = some (rs ++ [ql])[i] := List.getElem?_eq_getElem hi'
      generalize (rs ++ [ql])[i] = p at ep
      have epp := hat i p ep
      obtain ⟨t, k', s', e', g1, g2⟩ := hfl epp
      obtain ⟨c1, c2, _⟩ := hb.pcs p (List.mem_of_getElem? epp)
      have eH : sumH ((rs ++ [ql]).take (i + 1)) = sumH ((rs ++ [ql]).take i) + p.h := by rw [List.take_add_one, ep]; exact sumH_snoc _ _
      have eB : sumB (rs.take (i + 1)) = sumB (rs.take i) + if i < rs.length then bl p else 0 := by
        by_cases hil : i < rs.length
        · rw [List.getElem?_append_left hil] at ep
          rw [List.take_add_one, ep, if_pos hil]; exact sumB_snoc _ _
        · rw [List.take_of_length_le (by omega), List.take_of_length_le (by omega), if_neg hil]; omega
      refine ⟨.ref f, rfl, .int _, rfl, f, _, _, .ref t, rfl, rfl, SqL.of hf, atI_nat g1, t, _, 0, .ref p.t, rfl, rfl, SqT.of g2, rfl, ?_⟩
      refine ⟨.int _, rfl, .ref p.t, rfl, p.t, _, 0, .int p.h, rfl, rfl, SqT.of c1, rfl, _, _, rfl, rfl, ?_⟩
      refine ⟨.int _, rfl, .int (en : Int), rfl, _, _, rfl, rfl, _, _, rfl, rfl, _, rfl, ite2 (fun h1 => ?_) (fun h1 => ?_)⟩
      · have h1 := of_decide_eq_true h1
        refine ⟨.ref p.t, rfl, p.t, _, 1, .ref p.ti, rfl, rfl, SqT.of c1, rfl, p.ti, _, 0, .str p.tw, rfl, rfl, SqT.of c2, (show atI (V.str p.tw :: _) ((0 : Nat) : Int) = _ from atI_nat rfl), rfl, _, rfl, ite2 (fun h => ?_) (fun h => ?_)⟩
        · have hbk : p.tw = Str.ofString "blank" := V.str.inj (of_decide_eq_true h)
          obtain ⟨n, en'⟩ := L.ties p (List.mem_of_getElem? epp) (.inl hbk)
          refine ⟨.int _, rfl, .ref p.t, rfl, p.t, _, 1, .ref p.ti, rfl, rfl, SqT.of c1, rfl, p.ti, _, 1, .int n, rfl, rfl, SqT.of c2, (by show atI (tieV p) ((1 : Nat) : Int) = _; unfold tieV; rw [en']; exact atI_nat rfl), _, _, rfl, rfl, some (.int ((st + i : Nat) : Int)), some (.ref p.t), congrArg (fun z : Int => [some (V.ref a), some (V.ref f), some (V.int (st : Int)), some (V.int (en : Int)), some (V.int z), some (V.int ((st + i : Nat) : Int)), some (V.ref p.t)]) ?_, rfl⟩
          rw [eH, eB, if_pos (by omega)]
          unfold bl; rw [if_pos hbk, en']
          show _ = _ + p.h + (_ + n); omega
        · refine ⟨some (.int ((st + i : Nat) : Int)), some (.ref p.t), congrArg (fun z : Int => [some (V.ref a), some (V.ref f), some (V.int (st : Int)), some (V.int (en : Int)), some (V.int z), some (V.int ((st + i : Nat) : Int)), some (V.ref p.t)]) ?_, rfl⟩
          rw [eH, eB]
          unfold bl; rw [if_neg (fun e => h (decide_eq_true (congrArg V.str e)))]
          show _ + p.h = _; split <;> omega
      · refine ⟨some (.int ((st + i : Nat) : Int)), some (.ref p.t), congrArg (fun z : Int => [some (V.ref a), some (V.ref f), some (V.int (st : Int)), some (V.int (en : Int)), some (V.int z), some (V.int ((st + i : Nat) : Int)), some (V.ref p.t)]) ?_, rfl⟩
        have h1 : ¬ i < rs.length := fun z => h1 (decide_eq_true (by omega))
        rw [eH, eB, if_neg h1]
        show _ + p.h = _; omega
    · rintro σ H' ⟨y5, y6, rfl, rfl⟩
      rw [List.take_of_length_le (by rw [List.length_append, List.length_singleton]; omega), List.take_of_length_le (by omega)]
      obtain ⟨t, k', s', e', g1, g2⟩ := hfl hq
      obtain ⟨c1, c2, _⟩ := hb.pcs ql (List.mem_of_getElem? hq)
      refine ⟨fun σ' H2 => ∃ y5 y6, σ' = [some (.ref a), some (.ref f), some (.int (st : Int)), some (.int (en : Int)), some (.int (sumH (rs ++ [ql]) + sumB rs + jo ql)), y5, y6] ∧ H2 = H', ?_, ?_⟩
      · refine ⟨.ref f, rfl, .int (en : Int), rfl, _, _, rfl, rfl, f, _, _, .ref t, rfl, rfl, SqL.of hf, (by rw [ee]; exact atI_nat g1), t, _, 0, .ref ql.t, rfl, rfl, SqT.of g2, rfl, ql.t, _, 1, .ref ql.ti, rfl, rfl, SqT.of c1, rfl, ql.ti, _, 0, .str ql.tw, rfl, rfl, SqT.of c2, (show atI (V.str ql.tw :: _) ((0 : Nat) : Int) = _ from atI_nat rfl), rfl, _, rfl, ite2 (fun h => ?_) (fun h => ?_)⟩
        · have hj : ql.tw = Str.ofString "joint" := V.str.inj (of_decide_eq_true h)
          obtain ⟨n, en'⟩ := L.ties ql (List.mem_of_getElem? hq) (.inr hj)
          refine ⟨.int _, rfl, .ref f, rfl, .int (en : Int), rfl, _, _, rfl, rfl, f, _, _, .ref t, rfl, rfl, SqL.of hf, (by rw [ee]; exact atI_nat g1), t, _, 0, .ref ql.t, rfl, rfl, SqT.of g2, rfl, ql.t, _, 1, .ref ql.ti, rfl, rfl, SqT.of c1, rfl, ql.ti, _, 1, .int n, rfl, rfl, SqT.of c2, (by show atI (tieV ql) ((1 : Nat) : Int) = _; unfold tieV; rw [en']; exact atI_nat rfl), _, _, rfl, rfl, y5, y6, congrArg (fun z : Int => [some (V.ref a), some (V.ref f), some (V.int (st : Int)), some (V.int (en : Int)), some (V.int z), y5, y6]) ?_, rfl⟩
          unfold jo; rw [if_pos hj, en']; rfl
        · refine ⟨y5, y6, congrArg (fun z : Int => [some (V.ref a), some (V.ref f), some (V.int (st : Int)), some (V.int (en : Int)), some (V.int z), y5, y6]) ?_, rfl⟩
          unfold jo; rw [if_neg (fun e => h (decide_eq_true (congrArg V.str e))), Int.add_zero]
      rintro σ' H' ⟨y5, y6, rfl, rfl⟩
      have hlt : st < (pcs bs).length := by omega
      obtain ⟨p, ep⟩ : ∃ p, (pcs bs)[st]? = some p := ⟨_, List.getElem?_eq_getElem hlt⟩
      obtain ⟨u, hu1, hu2⟩ := hT.2.2 st p k s e ep L.sp
      have eq1 : natM (segM bs st en) (indM st s b) = sumH (rs ++ [ql]) + sumB rs + jo ql + indM st s b := by rw [es, natM_snoc]; omega
      rw [eq1] at q
      refine ⟨.int (st : Int), rfl, .ref f, rfl, .int (st : Int), rfl, f, _, _, .ref u, rfl, rfl, SqL.of hf, atI_nat hu1, u, _, 2, .int (s : Int), rfl, rfl, SqT.of hu2, rfl, rfl, _, rfl, ite2 (fun h => ?_) (fun h => ?_)⟩
      · have hss : st = s := by have := V.int.inj (of_decide_eq_true h); omega
        obtain ⟨d1, _⟩ := hb b (List.mem_of_getElem? L.bk)
        refine ⟨.int _, rfl, .ref a, rfl, .ref f, rfl, .int (st : Int), rfl, f, _, _, .ref u, rfl, rfl, SqL.of hf, atI_nat hu1, u, _, 1, .int (k : Int), rfl, rfl, SqT.of hu2, rfl, a, _, _, .ref b.t, rfl, rfl, SqL.of ha, atI_nat (bv_at L.bk), b.t, _, 1, .int b.b, rfl, rfl, SqT.of d1, rfl, _, _, rfl, rfl, .int _, rfl, ?_⟩
        unfold indM at q; rw [if_pos hss] at q; exact q
      · unfold indM at q; rw [if_neg (fun z => h (decide_eq_true (congrArg V.int (by omega)))), Int.add_zero] at q
        exact ⟨.int _, rfl, q⟩
end
end K37

set_option maxRecDepth 100000
set_option maxHeartbeats 8000000
namespace K37
open PySem PySem.Spec PyProof.Rows L2
/-! ### a Steps -/
structure F7 where
  bk : Addr
  B : Addr
  A : Addr
  O : Addr
  h : Addr
  c : Addr
  l : Addr
def fs7 (f : F7) : List (Str × V) := [("book", .ref f.bk), ("_blocks", .ref f.B), ("_all", .ref f.A), ("_owners", .ref f.O), ("_heights", .ref f.h), ("_called", .ref f.c), ("_lines", .ref f.l)]
def calV (ps : List Pc) (n : Nat) : List V := (List.range n).map fun j => V.int ((figs (ps.take j)).length : Nat)
theorem calV_succ (ps : List Pc) (n : Nat) : calV ps (n + 1) = calV ps n ++ [V.int ((figs (ps.take n)).length : Nat)] := by
  unfold calV
  rw [List.range_succ, List.map_append]; rfl
theorem calV_len (ps : List Pc) (n : Nat) : (calV ps n).length = n := by unfold calV; rw [List.length_map, List.length_range]
theorem calV_at (ps : List Pc) {n j : Nat} (h : j < n) : (calV ps n)[j]? = some (V.int ((figs (ps.take j)).length : Nat)) := by
  unfold calV
  rw [List.getElem?_map, List.getElem?_range h]; rfl
def Bt (p : Addr) (H H' : Hp) : Prop := ∀ b o, b ≠ p → H b = some o → H' b = some o
theorem Bt.refl (p : Addr) (H : Hp) : Bt p H H := fun _ _ _ h => h
theorem Bt.trans {p : Addr} {H H1 H2 : Hp} (a : Bt p H H1) (b : Bt p H1 H2) : Bt p H H2 := fun x o n h => b x o n (a x o n h)
theorem Bt.same {p : Addr} {H H1 H2 : Hp} (a : Bt p H H1) (b : Same H1 H2) : Bt p H H2 := fun x o n h => b x o (a x o n h)
/-- a Steps over the blocks -/
def StA (CS : Addr) (H : Hp) (p : Addr) (f : F7) (bs : List Bk) (kvs : List (Key × V)) : Prop := ∃ (dx : Addr) (os : List V), H p = some (.ins CS dx (fs7 f)) ∧ H f.B = some (.lst (bv bs)) ∧ H f.A = some (.lst (pv' (pcs bs))) ∧ H f.O = some (.lst os) ∧ OwnT H os (spans 0 0 bs) ∧ H f.h = some (.lst ((figs (pcs bs)).map V.int)) ∧ H f.c = some (.lst (calV (pcs bs) ((pcs bs).length + 1))) ∧ H f.l = some (.dK kvs) ∧ BsT H bs
theorem StA.same {CS : Addr} {H H' : Hp} {p : Addr} {f : F7} {bs : List Bk} {kvs : List (Key × V)} (h : StA CS H p f bs kvs) (s : Same H H') : StA CS H' p f bs kvs :=
  let ⟨dx, os, h1, h2, h3, h4, h5, h6, h7, h8, h9⟩ := h
  ⟨dx, os, s _ _ h1, s _ _ h2, s _ _ h3, s _ _ h4, h5.kp (Kp.of s), s _ _ h6, s _ _ h7, s _ _ h8, h9.kp (Kp.of s)⟩
structure Stp (K : PySem.W.Frag) (mg : Str → Option Value) (CS : Addr) : Prop where
  cl : Cls K CS
  n_book : NoAttr K CS "book"
  n_blocks : NoAttr K CS "_blocks"
  n_all : NoAttr K CS "_all"
  n_owners : NoAttr K CS "_owners"
  n_heights : NoAttr K CS "_heights"
  n_called : NoAttr K CS "_called"
  n_lines : NoAttr K CS "_lines"
  mgC : mg "Steps" = some (.ref CS)
structure GF (P : Program) (w : World) (K : PySem.W.Frag) (mg : Str → Option Value) (base : Heap) (C pf gf : Addr) (df : FuncData) : Prop where
  fp : PropOf K C "figures" pf gf
  fpG : FnOk P w K mg base CX0 2 gf df ["self"] (spFgs C)
  fpB : Binds K df ["self"] []
section
variable {P : Program} {w : World} {K : PySem.W.Frag} {mg : Str → Option Value} {base : Heap} {t3 t4 : Tok} {C CS CN CB FT fi fl fb pp gp pf gf : Addr} {mc u : Value} {di dl db dp df : FuncData}
def spSI (C CS : Addr) : Sp := fun vs H Q _ => ∃ (p dx g bk : Addr) (l : L3) (bs : List Bk), vs = [.ref p, .ref g, .ref bk] ∧ H p = some (.ins CS dx []) ∧ GalA C H g l bs ∧ g ≠ p ∧ Small bs ∧ (figs (pcs bs)).length ≤ 4 ∧
  ∀ H' f, Bt p H H' → f.bk = bk → H f.l = none → StA CS H' p f bs [] → Q .non H'
abbrev pSI : List Str := ["self", "galley", "book"]
abbrev nSI : List Str := ["self", "galley", "book", "piece"]
theorem scSI : FnScope nSI pSI (defScope sSInit) := ⟨rfl, rfl, rfl, by decide +kernel, rfl, by decide +kernel, by decide +kernel⟩
theorem ok_si {f : Addr} {fd : FuncData} (B : Blt mg) (T : Gly K mg C) (TS : Stp K mg CS) (S : GK P w K mg base C CN fi fl fb pp gp di dl db dp) (S2 : GF P w K mg base C pf gf df) (F : Fun K "__init__" "Steps.__init__" sSInit f fd) : FnOk P w K mg base CX0 5 f fd pSI (spSI C CS) := by
  refine F.ok scSI (fun vs H Q E h => ?_) (fun cdv A0 outer s H vs Q E hr h => ?_)
  · obtain ⟨p, dx, g, bk, l, bs, rfl, _⟩ := h; rfl
  · obtain ⟨p, dx, g, bk, l, bs, rfl, hp, gA, ngp, hsm, hfl, q⟩ := h
    have hr3 : Room 3 _ := hr.mono (by decide)
    have hr2 : Room 2 _ := hr.mono (by decide)
    have hs1 := hsm.1
    have hs2 := hsm.2
    have hb : BsT H bs := gA.choose_spec.choose_spec.2.2.2.2.2
    have tot : Bt p H H := Bt.refl p H
    refine ⟨_, (pss_cons (ps_fld (pv 0) (pv 2) rfl)
      (pss_cons (ps_fld (pv 0) (pe_callTy (RO.call_listOwnL ⟨S.it.1, S.it.2, S.itG, S.itB⟩ ⟨S.ln.1, S.ln.2, S.lnG, S.lnB⟩ rfl hr) (by rfl) B.list (by decide +kernel) (pa_cons (pv 1) pa_nil)) rfl)
      (pss_cons (ps_fld (pv 0) (pe_prop (pv 1) T.cl S.pp S.ppG hr2 S.ppB .nil pass0 rfl) rfl)
      (pss_cons (ps_fld (pv 0) (pe_lc (own := [("piece", 3)]) (g := gName 3) (tt := tYes) rfl scSI.nd (pi_range1 (by rfl) B.range (pa_cons (pe_callB (RO.call_lenOwn S.ln.1 S.ln.2 S.lnG S.lnB hr2) (by rfl) B.len PySem.boot_len (pa_cons (pv 1) pa_nil)) pa_nil)) (blkOk_by (N := nSI) (sc := defScope sSInit) (by decide +kernel)) (fun _ _ _ _ _ => (pg_name (i := 3) scSI.nd rfl (.inl rfl))) (fun _ _ _ _ _ => pts_nil) (fun _ _ _ _ _ => (pe_meth (pv 1) T.cl S.bl S.blG hr3 S.blB .nil passNN (pa_cons (pv 3) pa_nil)))) rfl)
      (pss_cons (ps_fld (pv 0) (pe_prop (pv 1) T.cl S2.fp S2.fpG hr3 S2.fpB .nil pass0 rfl) rfl)
      (pss_cons (ps_fld (pv 0) (pe_lst (pa_cons pe_int pa_nil)) rfl)
      (pss_cons (ps_for (PassesOwn.never) rfl (pi_list (pe_fld (pv 0) rfl)) (pg_name (i := 3) scSI.nd rfl (.inl rfl))
      (pss_one (ps_expr (pe_bm PySem.F.plainAttrs_list PySem.F.slot_list_append PySem.F.type_list_append mt_append (pe_fld (pv 0) rfl) (pa_cons (pe_op op_add (pe_ix ix_list (pe_fld (pv 0) rfl) (pe_un un_neg pe_int) (fun _ _ => rfl)) (pe_callB call_len (by rfl) B.len PySem.boot_len (pa_cons (pe_ix ix_tup (pv 3) pe_int (fun _ _ => rfl)) pa_nil))) pa_nil)))))
      (pss_one (ps_fld (pv 0) pe_dnewK rfl))))))))), ?_⟩
    refine ⟨.ref bk, rfl, .ref p, rfl, p, CS, dx, [], rfl, hp, TS.cl, TS.n_book, (by show 0 < 1000; decide), ?_⟩
    have r1 : Bt p H (upd H p (.ins CS dx (putF "book" (.ref bk) []))) := upd_but
    have hp0 := hp
    have hp : (upd H p (.ins CS dx (putF "book" (.ref bk) []))) p = some (.ins CS dx [("book", .ref bk)]) := upd_same
    generalize upd H p (.ins CS dx (putF "book" (.ref bk) [])) = H1 at r1 hp ⊢
    have gA := gA.oth hp0 ngp r1
    have kp := Kp.but hp0 (fun z => z) r1
    have hb := hb.kp kp
    have tot := tot.trans r1
    obtain ⟨dg, og, g1, g2, g3, g4, g5, g6⟩ := id gA
    refine ⟨.ref g, rfl, g, dg, l.1, fs3 l, bv bs, (pcs bs).length, rfl, g1, lk1 l, g2, by rw [bv_len]; omega, by rw [sizeLine_eq]; omega, fun H' s' => ⟨g, l, bs, rfl, gA.same s', rfl, rfl⟩, fun B0 nB0 => ?_⟩
    have r2 := same_new nB0 (o := .lst (bv bs))
    have hB0 : (upd H1 B0 (.lst (bv bs))) B0 = some (.lst (bv bs)) := upd_same
    generalize upd H1 B0 (.lst (bv bs)) = H2 at r2 hB0 ⊢
    have hp := r2 _ _ hp
    have gA := gA.same r2
    have hb := hb.kp (Kp.of r2)
    have tot := tot.same r2
    refine ⟨.ref p, rfl, p, CS, dx, _, rfl, hp, TS.cl, TS.n_blocks, (by show 1 < 1000; decide), ?_⟩
    have r3 : Bt p H2 (upd H2 p (.ins CS dx (putF "_blocks" (.ref B0) [("book", .ref bk)]))) := upd_but
    have hp0 := hp
    have hp : (upd H2 p (.ins CS dx (putF "_blocks" (.ref B0) [("book", .ref bk)]))) p = some (.ins CS dx [("book", .ref bk), ("_blocks", .ref B0)]) := upd_same
    generalize upd H2 p (.ins CS dx (putF "_blocks" (.ref B0) [("book", .ref bk)])) = H3 at r3 hp ⊢
    have hB0 := r3 _ _ (ne_of hB0 hp0 (fun z => nomatch z)) hB0
    have gA := gA.oth hp0 ngp r3
    have kp := Kp.but hp0 (fun z => z) r3
    have hb := hb.kp kp
    have tot := tot.trans r3
    obtain ⟨dg, og, g1, g2, g3, g4, g5, g6⟩ := id gA
    refine ⟨.ref g, rfl, g, dg, _, rfl, g1, g, l, bs, rfl, gA, fun A1 nA1 => ?_⟩
    have r4 := same_new nA1 (o := .lst (pv' (pcs bs)))
    have hA1 : (upd H3 A1 (.lst (pv' (pcs bs)))) A1 = some (.lst (pv' (pcs bs))) := upd_same
    generalize upd H3 A1 (.lst (pv' (pcs bs))) = H4 at r4 hA1 ⊢
    have hB0 := r4 _ _ hB0
    have hp := r4 _ _ hp
    have gA := gA.same r4
    have hb := hb.kp (Kp.of r4)
    have tot := tot.same r4
    refine ⟨.ref p, rfl, p, CS, dx, _, rfl, hp, TS.cl, TS.n_all, (by show 2 < 1000; decide), ?_⟩
    have r5 : Bt p H4 (upd H4 p (.ins CS dx (putF "_all" (.ref A1) [("book", .ref bk), ("_blocks", .ref B0)]))) := upd_but
    have hp0 := hp
    have hp : (upd H4 p (.ins CS dx (putF "_all" (.ref A1) [("book", .ref bk), ("_blocks", .ref B0)]))) p = some (.ins CS dx [("book", .ref bk), ("_blocks", .ref B0), ("_all", .ref A1)]) := upd_same
    generalize upd H4 p (.ins CS dx (putF "_all" (.ref A1) [("book", .ref bk), ("_blocks", .ref B0)])) = H5 at r5 hp ⊢
    have hB0 := r5 _ _ (ne_of hB0 hp0 (fun z => nomatch z)) hB0
    have hA1 := r5 _ _ (ne_of hA1 hp0 (fun z => nomatch z)) hA1
    have gA := gA.oth hp0 ngp r5
    have kp := Kp.but hp0 (fun z => z) r5
    have hb := hb.kp kp
    have tot := tot.trans r5
    obtain ⟨dg, og, g1, g2, g3, g4, g5, g6⟩ := id gA
    refine ⟨.ref g, rfl, g, dg, fs3 l, (pcs bs).length, rfl, g1, by rw [sizeLine_eq]; omega, ⟨g, l, bs, rfl, gA, rfl, rfl⟩, ((pcs bs).length : Int), rfl, by omega, by omega, fun O nO => ?_⟩
    rw [Int.toNat_natCast]
    refine lc_range (lo := 0) (n := (pcs bs).length) (fun i H' => Same H5 H' ∧ ∃ os, H' O = some (.lst os) ∧ OwnT H' os ((spans 0 0 bs).take i)) ⟨same_new nO, [], upd_same, rfl, fun j k s e h => by simp at h⟩ ?_ ?_
    · rintro i H' hi ⟨sm, os, ho, hT⟩
      have e0 : (0 : Int) + (i : Int) = (i : Int) := by omega
      have gA' := gA.same sm
      obtain ⟨dg', og', g1', g2', g3', g4', g5', g6'⟩ := id gA'
      refine ⟨rfl, .ref g, rfl, g, dg', fs3 l, rfl, g1', rfl, .int (0 + (i : Int)), rfl, g, l, bs, (0 + (i : Int)), rfl, gA', (fun z => absurd ⟨by omega, by omega⟩ z), fun j ej k s e t hj ht => ?_⟩
      have ej : i = j := by omega
      subst ej
      have hol : os.length = i := by rw [hT.1, List.length_take, spans_len]; omega
      have kp : Kp H' (upd H' O (.lst (os ++ [.ref t]))) := Kp.but ho (fun z => z) upd_but
      refine ⟨os, ho, small1000 (by omega), same_at sm nO, os ++ [.ref t], upd_same, ?_⟩
      rw [List.take_add_one, hj]
      exact (hT.app (m := 1) ht).kp kp
    rintro H6 ⟨r6, og', hO, hT⟩
    rw [List.take_of_length_le (by rw [spans_len]; exact Nat.le_refl _)] at hT
    have hB0 := r6 _ _ hB0
    have hA1 := r6 _ _ hA1
    have hp := r6 _ _ hp
    have gA := gA.same r6
    have hb := hb.kp (Kp.of r6)
    have tot := tot.same r6
    refine ⟨.ref p, rfl, p, CS, dx, _, rfl, hp, TS.cl, TS.n_owners, (by show 3 < 1000; decide), ?_⟩
    have r7 : Bt p H6 (upd H6 p (.ins CS dx (putF "_owners" (.ref O) [("book", .ref bk), ("_blocks", .ref B0), ("_all", .ref A1)]))) := upd_but
    have hp0 := hp
    have hp : (upd H6 p (.ins CS dx (putF "_owners" (.ref O) [("book", .ref bk), ("_blocks", .ref B0), ("_all", .ref A1)]))) p = some (.ins CS dx [("book", .ref bk), ("_blocks", .ref B0), ("_all", .ref A1), ("_owners", .ref O)]) := upd_same
    generalize upd H6 p (.ins CS dx (putF "_owners" (.ref O) [("book", .ref bk), ("_blocks", .ref B0), ("_all", .ref A1)])) = H7 at r7 hp ⊢
    have hB0 := r7 _ _ (ne_of hB0 hp0 (fun z => nomatch z)) hB0
    have hA1 := r7 _ _ (ne_of hA1 hp0 (fun z => nomatch z)) hA1
    have hO := r7 _ _ (ne_of hO hp0 (fun z => nomatch z)) hO
    have gA := gA.oth hp0 ngp r7
    have kp := Kp.but hp0 (fun z => z) r7
    have hb := hb.kp kp
    have tot := tot.trans r7
    have hT := hT.kp kp
    obtain ⟨dg, og, g1, g2, g3, g4, g5, g6⟩ := id gA
    refine ⟨.ref g, rfl, g, dg, _, rfl, g1, g, l, bs, rfl, gA, hs2, fun H8 h0 r8 nh0 hh0 => ?_⟩
    have hB0 := r8 _ _ hB0
    have hA1 := r8 _ _ hA1
    have hO := r8 _ _ hO
    have hp := r8 _ _ hp
    have gA := gA.same r8
    have hb := hb.kp (Kp.of r8)
    have tot := tot.same r8
    have hT := hT.kp (Kp.of r8)
    refine ⟨.ref p, rfl, p, CS, dx, _, rfl, hp, TS.cl, TS.n_heights, (by show 4 < 1000; decide), ?_⟩
    have r9 : Bt p H8 (upd H8 p (.ins CS dx (putF "_heights" (.ref h0) [("book", .ref bk), ("_blocks", .ref B0), ("_all", .ref A1), ("_owners", .ref O)]))) := upd_but
    have hp0 := hp
    have hp : (upd H8 p (.ins CS dx (putF "_heights" (.ref h0) [("book", .ref bk), ("_blocks", .ref B0), ("_all", .ref A1), ("_owners", .ref O)]))) p = some (.ins CS dx [("book", .ref bk), ("_blocks", .ref B0), ("_all", .ref A1), ("_owners", .ref O), ("_heights", .ref h0)]) := upd_same
    generalize upd H8 p (.ins CS dx (putF "_heights" (.ref h0) [("book", .ref bk), ("_blocks", .ref B0), ("_all", .ref A1), ("_owners", .ref O)])) = H9 at r9 hp ⊢
    have hB0 := r9 _ _ (ne_of hB0 hp0 (fun z => nomatch z)) hB0
    have hA1 := r9 _ _ (ne_of hA1 hp0 (fun z => nomatch z)) hA1
    have hO := r9 _ _ (ne_of hO hp0 (fun z => nomatch z)) hO
    have hh0 := r9 _ _ (ne_of hh0 hp0 (fun z => nomatch z)) hh0
    have gA := gA.oth hp0 ngp r9
    have kp := Kp.but hp0 (fun z => z) r9
    have hb := hb.kp kp
    have tot := tot.trans r9
    have hT := hT.kp kp
    refine ⟨by show 1 ≤ sizeLine; decide, fun c0 nc0 => ?_⟩
    have dH := tot
    have dA1 : A1 ≠ c0 := ne_of_none hA1 nc0
    have dB0 : B0 ≠ c0 := ne_of_none hB0 nc0
    have dO : O ≠ c0 := ne_of_none hO nc0
    have dh0 : h0 ≠ c0 := ne_of_none hh0 nc0
    have dp : p ≠ c0 := ne_of_none hp nc0
    have r10 := same_new nc0 (o := .lst [.int 0])
    have hc0 : (upd H9 c0 (.lst [.int 0])) c0 = some (.lst [.int 0]) := upd_same
    generalize upd H9 c0 (.lst [.int 0]) = H10 at r10 hc0 ⊢
    have hB0 := r10 _ _ hB0
    have hA1 := r10 _ _ hA1
    have hO := r10 _ _ hO
    have hh0 := r10 _ _ hh0
    have hp := r10 _ _ hp
    have gA := gA.same r10
    have hb := hb.kp (Kp.of r10)
    have tot := tot.same r10
    have hT := hT.kp (Kp.of r10)
    refine ⟨.ref p, rfl, p, CS, dx, _, rfl, hp, TS.cl, TS.n_called, (by show 5 < 1000; decide), ?_⟩
    have r11 : Bt p H10 (upd H10 p (.ins CS dx (putF "_called" (.ref c0) [("book", .ref bk), ("_blocks", .ref B0), ("_all", .ref A1), ("_owners", .ref O), ("_heights", .ref h0)]))) := upd_but
    have hp0 := hp
    have hp : (upd H10 p (.ins CS dx (putF "_called" (.ref c0) [("book", .ref bk), ("_blocks", .ref B0), ("_all", .ref A1), ("_owners", .ref O), ("_heights", .ref h0)]))) p = some (.ins CS dx [("book", .ref bk), ("_blocks", .ref B0), ("_all", .ref A1), ("_owners", .ref O), ("_heights", .ref h0), ("_called", .ref c0)]) := upd_same
    generalize upd H10 p (.ins CS dx (putF "_called" (.ref c0) [("book", .ref bk), ("_blocks", .ref B0), ("_all", .ref A1), ("_owners", .ref O), ("_heights", .ref h0)])) = H11 at r11 hp ⊢
    have hB0 := r11 _ _ (ne_of hB0 hp0 (fun z => nomatch z)) hB0
    have hA1 := r11 _ _ (ne_of hA1 hp0 (fun z => nomatch z)) hA1
    have hO := r11 _ _ (ne_of hO hp0 (fun z => nomatch z)) hO
    have hh0 := r11 _ _ (ne_of hh0 hp0 (fun z => nomatch z)) hh0
    have hc0 := r11 _ _ (ne_of hc0 hp0 (fun z => nomatch z)) hc0
    have gA := gA.oth hp0 ngp r11
    have kp := Kp.but hp0 (fun z => z) r11
    have hb := hb.kp kp
    have tot := tot.trans r11
    have hT := hT.kp kp
    have pc := fun x hx => hb.pcs x hx
    refine ⟨.ref p, rfl, p, CS, dx, _, .ref A1, rfl, hp, TS.cl, TS.n_all, rfl, A1, rfl, ⟨_, SqL.of hA1⟩, for_list (K := K) (a := A1) (xs := pv' (pcs bs)) (fun i σ H' => ∃ y, σ = [some (.ref p), some (.ref g), some (.ref bk), y] ∧ Bt c0 H11 H' ∧ H' c0 = some (.lst (calV (pcs bs) (i + 1)))) ⟨none, rfl, Bt.refl _ _, hc0⟩ (fun i σ H' _ ⟨_, _, sm, _⟩ => SqL.of (sm _ _ dA1 hA1)) ?_ ?_⟩
    · rintro i x σ H' hi ⟨y, rfl, sm, hc⟩
      obtain ⟨pc0, ep, rfl⟩ := of_pv hi
      have hil := (List.getElem?_eq_some_iff.mp ep).1
      have hp' := sm _ _ dp hp
      have kc : Kp H11 H' := Kp.but hc0 (fun z => z) sm
      obtain ⟨c1, c2, c3, c4, c5, c6, c7⟩ := (pc pc0 (List.mem_of_getElem? ep)).kp kc
      have el : atI (calV (pcs bs) (i + 1)) (-1) = some (.int ((figs ((pcs bs).take i)).length : Nat)) := by rw [calV_succ]; exact atI_last _ _
      refine ⟨.ref p, rfl, p, CS, dx, _, .ref c0, rfl, hp', TS.cl, TS.n_called, rfl, .inl ⟨rfl, _, SqL.of hc⟩, .ref p, rfl, p, CS, dx, _, .ref c0, rfl, hp', TS.cl, TS.n_called, rfl, 1, rfl, c0, _, -1, _, rfl, rfl, SqL.of hc, el, .ref pc0.t, rfl, pc0.t, _, 3, .ref pc0.ca, rfl, rfl, SqT.of c1, rfl, .ref pc0.ca, pc0.calls.length, rfl, .inr ⟨_, SqT.of c6, (List.length_map _).symm⟩, _, _, rfl, rfl, ?_⟩
      refine ⟨c0, _, _, rfl, rfl, hc, (by rw [calV_len]; exact small1000 (by omega)), _, rfl, fun b o n e => by rw [upd_ne n]; exact sm b o n e, ?_⟩
      rw [upd_same, calV_succ (pcs bs) (i + 1), List.take_add_one, ep]
      show _ = some (HO.lst (_ ++ [V.int ((figs ((pcs bs).take i ++ [pc0])).length : Nat)]))
      rw [figs_snoc, List.length_append, Int.natCast_add]
    · rintro σ H' ⟨y, rfl, sm, hc⟩
      rw [pv_len] at hc
      have kc : Kp H11 H' := Kp.but hc0 (fun z => z) sm
      have hp := sm _ _ dp hp
      have hA1 := sm _ _ dA1 hA1
      have hB0 := sm _ _ dB0 hB0
      have hO := sm _ _ dO hO
      have hh0 := sm _ _ dh0 hh0
      have hT := hT.kp kc
      have hb := hb.kp kc
      have tot : Bt p H H' := fun b o n e => sm b o (fun z => by have e1 := dH b o n e; rw [z, nc0] at e1; cases e1) (tot b o n e)
      refine fun l0 nl0 => ?_
      have r20 := same_new nl0 (o := .dK [])
      have hl0 : (upd H' l0 (.dK [])) l0 = some (.dK []) := upd_same
      generalize upd H' l0 (.dK []) = H20 at r20 hl0 ⊢
      refine ⟨.ref p, rfl, p, CS, dx, _, rfl, r20 _ _ hp, TS.cl, TS.n_lines, (by show 6 < 1000; decide), ?_⟩
      have b21 : Bt p H20 (upd H20 p (.ins CS dx (putF "_lines" (.ref l0) [("book", .ref bk), ("_blocks", .ref B0), ("_all", .ref A1), ("_owners", .ref O), ("_heights", .ref h0), ("_called", .ref c0)]))) := upd_but
      have hp21 : (upd H20 p (.ins CS dx (putF "_lines" (.ref l0) [("book", .ref bk), ("_blocks", .ref B0), ("_all", .ref A1), ("_owners", .ref O), ("_heights", .ref h0), ("_called", .ref c0)]))) p = some (.ins CS dx (fs7 ⟨bk, B0, A1, O, h0, c0, l0⟩)) := upd_same
      have hp20 := r20 _ _ hp
      have kp21 : Kp H20 (upd H20 p (.ins CS dx (putF "_lines" (.ref l0) [("book", .ref bk), ("_blocks", .ref B0), ("_all", .ref A1), ("_owners", .ref O), ("_heights", .ref h0), ("_called", .ref c0)]))) := Kp.but hp20 (fun z => z) b21
      generalize upd H20 p (.ins CS dx (putF "_lines" (.ref l0) [("book", .ref bk), ("_blocks", .ref B0), ("_all", .ref A1), ("_owners", .ref O), ("_heights", .ref h0), ("_called", .ref c0)])) = H21 at b21 hp21 kp21 ⊢
      have ne : ∀ {x : Addr} {ys : List V}, H20 x = some (.lst ys) → x ≠ p := fun h => ne_of h hp20 (fun z => nomatch z)
      have kk : Kp H' H21 := (Kp.of r20).trans kp21
      have hfl0 : H l0 = none := by
        cases e : H l0 with
        | none => rfl
        | some o =>
          have e2 := tot l0 o (fun z => by rw [z, hp] at nl0; cases nl0) e
          rw [nl0] at e2; cases e2
      exact q H21 ⟨bk, B0, A1, O, h0, c0, l0⟩ ((tot.same r20).trans b21) rfl hfl0 ⟨dx, _, hp21, b21 _ _ (ne (r20 _ _ hB0)) (r20 _ _ hB0), b21 _ _ (ne (r20 _ _ hA1)) (r20 _ _ hA1), b21 _ _ (ne (r20 _ _ hO)) (r20 _ _ hO), hT.kp kk, b21 _ _ (ne (r20 _ _ hh0)) (r20 _ _ hh0), b21 _ _ (ne (r20 _ _ hc)) (r20 _ _ hc), b21 _ _ (ne_of hl0 hp20 (fun z => nomatch z)) hl0, hb.kp kk⟩
end
end K37

set_option maxRecDepth 100000
set_option maxHeartbeats 2000000
/-! sum(t) of a tuple of ints -/
namespace RU
open PySem PySem.Spec PyProof.Rows L2
section
variable {prog : Program} {w : World} {A : Around} {E : Value → Shared → Prop} {s : Shared} {t : Addr} {its : List Value} {ns : List Int} {Q : Value → Shared → Prop}
theorem sum_tupRaw (hh : A.handled = none) (ht : s.heap.IsTuple t its.toArray) (hi : IntsAre its ns)
    (h : ∀ h' tk t', (∀ b o, s.heap.get? b = some o → h'.get? b = some o) → Q (.int ns.sum t') { s with heap := h', toks := tk }) : wpAny (model prog w) A (call (.builtin "sum") [.ref t]) Q E s := by
  obtain ⟨xs, e⟩ := hi.allInts.items
  have hn : numsOf (intItems xs).toList = ns := by rw [← e]; exact hi.numsOf
  rw [nums_intItems] at hn
  rw [e] at ht
  have hlt : t < s.heap.objs.size := by obtain ⟨_, e, _⟩ := ht; exact Heap.lt_size e
  refine PySem.call_sum_walkG (wpAny_pyIter_tuple ht ?_)
  refine ⟨_, _, _, _, _, _, numAt xs, rfl, Walks.tuple (A := A.in1) hh _ t (Nat.ne_of_lt hlt) (intItems xs), ⟨⟨_, Heap.get?_push_size _ rfl, rfl, rfl⟩, ht.push _⟩, fun b hb => ?_, (fun _ _ => intItems_at), fun h' tk t' hk => ?_⟩
  · show b < (s.heap.push _).objs.size
    rw [Heap.size_push]
    rcases List.mem_cons.mp hb with rfl | hb
    · exact Nat.lt_succ_self _
    · rw [List.mem_singleton.mp hb]; exact Nat.lt_succ_of_lt hlt
  · have := h h' tk t' (fun b o e => hk b o (fun hm => Nat.ne_of_lt (Heap.lt_size e) (List.mem_singleton.mp hm)) (Heap.get?_push_of_some _ e))
    rw [preSum_eq, List.take_of_length_le (by simp [intItems]), hn]; exact this
end
section
variable {X : Cx}
def rSumT (K : PySem.W.Frag) : List V → Hp → VK → Prop := fun vs H Q => ∃ (a : Addr) (ns : List Int), vs = [V.ref a] ∧ SqT K H a (ns.map V.int) ∧ Q (.int ns.sum) H
theorem cr_sumT (hc : X.calm = true) : CallR X (.builtin "sum") (rSumT X.K) := by
  intro pins s σ H vs us Q I r h
  obtain ⟨a, ns, rfl, hs, q⟩ := h
  obtain ⟨its, rv, hl, _⟩ := I.tuple hs
  rw [Vals.ref1 r]
  exact sum_tupRaw (I.ok.hd hc) hl rv.ints fun h' tk t' hk => ⟨.int _, H, I.kept hk, ⟨_, rfl⟩, q⟩
end
end RU

set_option maxRecDepth 100000
set_option maxHeartbeats 4000000
/-! an if whose test is shown once (first in k10's V3) -/
namespace RV
open PySem PySem.Spec PyProof.Rows L2
def tIfC (c : TT) (t u : TS) : TS := fun D σ H => ∃ Mid : Bool → Hp → Prop, c σ H Mid ∧ (∀ H', Mid true H' → t D σ H') ∧ ∀ H', Mid false H' → u D σ H'
theorem ps_ifC {X : Cx} {c : Expr} {a b : List Stmt} {pos : Pos} {tc : TT} {t u : TS} (hc : PT X c tc) (ha : PSs X a t) (hb : PSs X b u) : PS X (.If c a b pos) (tIfC tc t u) := by
  refine ⟨fun pins s σ H D I h => ?_⟩
  obtain ⟨Mid, hm, h1, h2⟩ := h
  refine wpAny_If (thn (hc.run pins s σ H Mid I hm) fun d s1 ⟨H1, I1, q1⟩ => ?_)
  cases d with
  | true => exact ha.run pins s1 σ H1 D I1 (h1 _ q1)
  | false => exact hb.run pins s1 σ H1 D I1 (h2 _ q1)
end RV

set_option maxRecDepth 100000
set_option maxHeartbeats 8000000
namespace K37
open PySem PySem.Spec PyProof.Rows L2
/-! ### lines, as numbers -/
def sumN (ps : List Pc) : Int := (ps.map fun p => p.notes.sum).sum
theorem sumN_snoc (ps : List Pc) (p : Pc) : sumN (ps ++ [p]) = sumN ps + p.notes.sum := by unfold sumN; rw [List.map_append, List.sum_append]; simp
def needM (bs : List Bk) (st en s : Nat) (b : Bk) : Int := b.a + (if st = s then b.c else 0) + sumN (segM bs st en)
def okL (room : Int) (bs : List Bk) (st s : Nat) (b : Bk) (en : Nat) : Bool := decide (en = st + 1) || decide (natM (segM bs st en) (indM st s b) ≤ room)
def endsM (room : Int) (bs : List Bk) (st s : Nat) (b : Bk) (n : Nat) : List Nat := (List.range' (st + 1) n).filter (okL room bs st s b)
theorem endsM_succ (room : Int) (bs : List Bk) (st s : Nat) (b : Bk) (n : Nat) : endsM room bs st s b (n + 1) = endsM room bs st s b n ++ if okL room bs st s b (st + 1 + n) = true then [st + 1 + n] else [] := by
  unfold endsM
  rw [List.range'_1_concat, List.filter_append]
  congr 1
  rw [List.filter_cons]
  split <;> rfl
theorem endsM_stop {room : Int} {bs : List Bk} {st s : Nat} {b : Bk} {i : Nat} : ∀ {n : Nat}, i ≤ n → (∀ j, i ≤ j → j < n → okL room bs st s b (st + 1 + j) = false) → endsM room bs st s b n = endsM room bs st s b i
  | 0, h, _ => by rw [Nat.le_zero.mp h]
  | n + 1, h, hf => by
    by_cases e : i = n + 1
    · rw [e]
    · rw [endsM_succ, hf n (by omega) (by omega), if_neg (by decide), List.append_nil]
      exact endsM_stop (by omega) fun j h1 h2 => hf j h1 (by omega)
theorem segM_succ {bs : List Bk} {st i : Nat} {p : Pc} (h : (pcs bs)[st + i]? = some p) : segM bs st (st + i + 1) = segM bs st (st + i) ++ [p] := by
  unfold segM
  rw [show st + i + 1 - st = i + 1 by omega, show st + i - st = i by omega, List.take_add_one, List.getElem?_drop, h]; rfl
theorem segM_zero (bs : List Bk) (st : Nat) : segM bs st st = [] := by unfold segM; rw [Nat.sub_self]; rfl
theorem seg_split (bs : List Bk) (st i j : Nat) (h : i ≤ j) : ∃ ms, segM bs st (st + j) = segM bs st (st + i) ++ ms ∧ ∀ p ∈ ms, p ∈ pcs bs := by
  refine ⟨(((pcs bs).drop st).drop i).take (j - i), ?_, fun p hp => List.mem_of_mem_drop (List.mem_of_mem_drop (List.mem_of_mem_take hp))⟩
  unfold segM
  rw [show st + j - st = i + (j - i) by omega, show st + i - st = i by omega]
  exact List.take_add
theorem sumH_app (a b : List Pc) : sumH (a ++ b) = sumH a + sumH b := by unfold sumH; rw [List.map_append, List.sum_append]
theorem sumB_app (a b : List Pc) : sumB (a ++ b) = sumB a + sumB b := by unfold sumB; rw [List.map_append, List.sum_append]
theorem bl_nn {p : Pc} (h : NnOk p) : 0 ≤ bl p := by unfold bl; split; exact h.2.2; exact Int.le_refl _
theorem jo_nn {p : Pc} (h : NnOk p) : 0 ≤ jo p := by unfold jo; split; exact h.2.2; exact Int.le_refl _
/-- what stands before the last piece's blank counts in every longer line -/
theorem nat_grows {rs ms : List Pc} {q : Pc} {ind : Int} (hm : ∀ p ∈ ms, NnOk p) (hr : NnOk q) : ind + sumH (rs ++ [q]) + sumB rs ≤ natM (rs ++ [q] ++ ms) ind := by
  rcases List.eq_nil_or_concat ms with rfl | ⟨ms', z, e⟩
  · rw [List.append_nil, natM_snoc]
    have := jo_nn hr; omega
  · rw [List.concat_eq_append] at e
    subst e
    rw [← List.append_assoc, natM_snoc, sumH_app (rs ++ [q] ++ ms'), sumH_app (rs ++ [q]), sumB_app (rs ++ [q]), sumB_snoc]
    have h1 : 0 ≤ sumH ms' := sum_nn _ fun p hp => (hm p (List.mem_append_left _ hp)).2.1
    have h2 : 0 ≤ sumB ms' := sum_nn _ fun p hp => bl_nn (hm p (List.mem_append_left _ hp))
    have h3 : 0 ≤ sumH [z] := sum_nn _ fun p hp => (hm p (List.mem_append_right _ hp)).2.1
    have h4 := bl_nn hr
    have h5 := jo_nn (hm z (List.mem_append_right _ List.mem_cons_self))
    omega
def hjM (bs : List Bk) (en : Nat) : Bool := match (pcs bs)[en - 1]? with
  | some q => decide (q.tw = Str.ofString "joint")
  | none => false
structure Ln where
  t : Addr
  en : Nat
  wh : Int
  co : Int
  ne : Int
  fs : Bool
  ls : Bool
def lv (ls : List Ln) : List V := ls.map fun x => V.ref x.t
theorem lv_snoc (ls : List Ln) (x : Ln) : lv ls ++ [.ref x.t] = lv (ls ++ [x]) := by unfold lv; rw [List.map_append]; rfl
def LnT (H : Hp) (x : Ln) : Prop := H x.t = some (.tup [.int (x.en : Int), .int x.wh, .int x.co, .int x.ne, .bl x.fs, .bl x.ls])
def LnOk (xs : List V) (bs : List Bk) (st s e : Nat) (b : Bk) (x : Ln) : Prop := x.wh = natM (segM bs st x.en) (indM st s b) ∧ x.co = priceM (numAt xs 0) (numAt xs 3) (numAt xs 2) (natM (segM bs st x.en) (indM st s b)) (decide (e = x.en)) (hjM bs x.en) ∧ x.ne = needM bs st x.en s b ∧ x.fs = decide (st = s) ∧ x.ls = decide (e = x.en)
section
variable {P : Program} {w : World} {K : PySem.W.Frag} {mg : Str → Option Value} {base : Heap} {t3 t4 : Tok} {C CS CN CB FT fi fl fb pp gp pf gf : Addr} {mc u : Value} {di dl db dp df : FuncData}
def spFo (CS CB : Addr) : Sp := fun vs H Q _ => ∃ (p : Addr) (f : F7) (bs : List Bk) (kvs : List (Key × V)) (xs : List V) (st k s e : Nat) (b : Bk), vs = [.ref p, .int (st : Int)] ∧ StA CS H p f bs kvs ∧ Bo.BookA CB H f.bk xs ∧ Bo.Good xs ∧ Small bs ∧ (∀ p ∈ pcs bs, NnOk p) ∧ (spans 0 0 bs)[st]? = some (k, s, e) ∧ bs[k]? = some b ∧ 0 ≤ b.b ∧
  ∀ H' r ls, Same H H' → H r = none → H' r = some (.lst (lv ls)) → (∀ x ∈ ls, LnT H' x ∧ LnOk xs bs st s e b x) → ls.map (·.en) = endsM (numAt xs 0) bs st s b (e - st) → Q (.ref r) H'
abbrev nFo : List Str := ["self", "start", "index", "first", "behind", "height", "indent", "before", "_", "inner", "need", "found", "end", "width", "tie", "whole", "cost"]
theorem scFo : FnScope nFo ["self", "start"] (defScope sSFound) := ⟨rfl, rfl, rfl, by decide +kernel, rfl, by decide +kernel, by decide +kernel⟩
theorem ok_fo {f f_price_of_line : Addr} {fd fd_price_of_line : FuncData} (B : Blt mg) (Z : CsT mg t3 t4) (TB : Bo.Bok K mg CB FT mc u) (TS : Stp K mg CS) (F : Fun K "_found_lines" "Steps._found_lines" sSFound f fd)
    (F_price_of_line : Fun K "price_of_line" "price_of_line" sPrice f_price_of_line fd_price_of_line) (b_price_of_line : Binds K fd_price_of_line pPr []) (g_price_of_line : mg "price_of_line" = some (.ref f_price_of_line)) (G_price_of_line : FnOk P w K mg base CX0 2 f_price_of_line fd_price_of_line pPr (spPr CB)) : FnOk P w K mg base CX0 3 f fd ["self", "start"] (spFo CS CB) := by
  refine F.ok scFo (fun vs H Q E h => ?_) (fun cdv A0 outer s H vs Q E hr h => ?_)
  · obtain ⟨p, f, bs, kvs, xs, st, k, s, e, b, rfl, _⟩ := h; rfl
  · obtain ⟨p, f, bs, kvs, xs, st, k, s, e, b, rfl, sA, hB, gx, hsm, hnn, hsp, hbk, hb0, q⟩ := h
    obtain ⟨dx, os, hp, hBl, hA, hO, hT, hh, hc, hl, hb⟩ := id sA
    obtain ⟨dk, w0, hk, hw⟩ := id hB
    obtain ⟨k0, k2, k3⟩ := lk_of gx w0
    have hs2 := hsm.2
    obtain ⟨b', j1, j2, j3, j4, j5, j6, j7⟩ := spans_at hsp
    rw [Nat.zero_add] at j4 j5 j6
    obtain ⟨tt, ht1, ht2⟩ := hT.2 st k s e hsp
    obtain ⟨h1, h2, h3, h4⟩ := hb b (List.mem_of_getElem? hbk)
    refine ⟨_, (pss_cons (ps_asg (pe_ix ix_list (pe_fld (pv 0) rfl) (pv 1) (fun _ _ => rfl)) (pg_tup rfl (pgs_cons (pg_name (i := 2) scFo.nd rfl (.inl rfl)) (pgs_cons (pg_name (i := 3) scFo.nd rfl (.inl rfl)) (pgs_cons (pg_name (i := 4) scFo.nd rfl (.inl rfl)) pgs_nil)))))
      (pss_cons (ps_asg (pe_ix ix_list (pe_fld (pv 0) rfl) (pv 2) (fun _ _ => rfl)) (pg_tup rfl (pgs_cons (pg_name (i := 5) scFo.nd rfl (.inl rfl)) (pgs_cons (pg_name (i := 6) scFo.nd rfl (.inl rfl)) (pgs_cons (pg_name (i := 7) scFo.nd rfl (.inl rfl)) (pgs_cons (pg_name (i := 8) scFo.nd rfl (.inl rfl)) (pgs_cons (pg_name (i := 8) scFo.nd rfl (.inl rfl)) pgs_nil)))))))
      (Evl.pss_cut (ps_set (i := 9) scFo.nd rfl (.inl rfl) (pe_ifExp (pt_cmpR op_eq (pv 1) (pv 3) (nomark _)) (pv 6) pe_int))
      (Evl.pss_cut (ps_set (i := 10) scFo.nd rfl (.inl rfl) (pe_ifExp (pt_cmpR op_eq (pv 1) (pv 3) (nomark _)) (pe_op op_add (pv 5) (pv 7)) (pv 5)))
      (pss_cons (ps_set (i := 11) scFo.nd rfl (.inl rfl) (pe_lst pa_nil))
      (pss_cons (ps_for (PassesOwn.never) rfl (pi_range2 (by rfl) B.range (pa_cons (pe_op op_add (pv 1) pe_int) (pa_cons (pe_op op_add (pv 4) pe_int) pa_nil))) (pg_name (i := 12) scFo.nd rfl (.inl rfl))
      (pss_cons (ps_par (i := 13) (j := 14) (by rfl) scFo.nd rfl rfl (by decide) rfl rfl (pa_cons (pe_ix ix_tup (pe_ix ix_list (pe_fld (pv 0) rfl) (pe_op op_sub (pv 12) pe_int) (fun _ _ => rfl)) pe_int (fun _ _ => rfl)) (pa_cons (pe_ix ix_tup (pe_ix ix_list (pe_fld (pv 0) rfl) (pe_op op_sub (pv 12) pe_int) (fun _ _ => rfl)) pe_int (fun _ _ => rfl)) pa_nil)) (by rfl))
       (pss_cons (ps_aug (i := 10) scFo.nd rfl (.inl rfl) (pe_callB (RU.cr_sumT rfl) (by rfl) B.sum (by decide +kernel) (pa_cons (pe_ix ix_tup (pe_ix ix_list (pe_fld (pv 0) rfl) (pe_op op_sub (pv 12) pe_int) (fun _ _ => rfl)) pe_int (fun _ _ => rfl)) pa_nil)) ip_add)
       (pss_cons (ps_aug (i := 9) scFo.nd rfl (.inl rfl) (pv 13) ip_add)
       (Evl.pss_cut (RV.ps_ifC (PW.pt (pw_and (pt_cmpR op_gt (pv 9) (pe_fld (pe_fld (pv 0) rfl) rfl) (nomark _)) (pw_and1 (pt_cmpR op_gt (pv 12) (pe_op op_add (pv 1) pe_int) (nomark _)))))
       (pss_one ps_break)
       pss_nil)
       (Evl.pss_cut (ps_set (i := 15) scFo.nd rfl (.inl rfl) (pe_ifExp (pt_cmpR op_eq (pe_ix ix_tup (pv 14) pe_int (fun _ _ => rfl)) (pe_glob (v := .str (Str.ofString "joint")) (by rfl) Z.g_JOINT_TIE ⟨_, rfl⟩) (nomark _)) (pe_op op_add (pv 9) (pe_ix ix_tup (pv 14) pe_int (fun _ _ => rfl))) (pv 9)))
       (Evl.pss_cut (RV.ps_ifC (PW.pt (pw_or (pt_cmpR op_le (pv 15) (pe_fld (pe_fld (pv 0) rfl) rfl) (nomark _)) (pw_or1 (pt_cmpR op_eq (pv 12) (pe_op op_add (pv 1) pe_int) (nomark _)))))
       (pss_cons (ps_set (i := 16) scFo.nd rfl (.inl rfl) (pe_call G_price_of_line hr (by rfl) g_price_of_line F_price_of_line.kp b_price_of_line .nil pass0 (pa_cons (pe_fld (pv 0) rfl) (pa_cons (pv 15) (pa_cons (pe_cmpR op_eq (pv 12) (pv 4) (nomark _)) (pa_cons (pe_cmpR op_eq (pe_ix ix_tup (pv 14) pe_int (fun _ _ => rfl)) (pe_glob (v := .str (Str.ofString "joint")) (by rfl) Z.g_JOINT_TIE ⟨_, rfl⟩) (nomark _)) pa_nil))))))
        (pss_one (ps_expr (pe_bm PySem.F.plainAttrs_list PySem.F.slot_list_append PySem.F.type_list_append mt_append (pv 11) (pa_cons (pe_tup (pa_cons (pv 12) (pa_cons (pv 15) (pa_cons (pv 16) (pa_cons (pv 10) (pa_cons (pe_cmpR op_eq (pv 1) (pv 3) (nomark _)) (pa_cons (pe_cmpR op_eq (pv 12) (pv 4) (nomark _)) pa_nil))))))) pa_nil)))))
       pss_nil)
       (pss_one (ps_if (pt_cmpR op_eq (pe_ix ix_tup (pv 14) pe_int (fun _ _ => rfl)) (pe_glob (v := .str (Str.ofString "blank")) (by rfl) Z.g_BLANK_TIE ⟨_, rfl⟩) (nomark _))
       (pss_one (ps_aug (i := 9) scFo.nd rfl (.inl rfl) (pe_ix ix_tup (pv 14) pe_int (fun _ _ => rfl)) ip_add))
       pss_nil)))))))))
      (pss_one (ps_ret (pv 11))))))))), ?_⟩
    refine ⟨.ref p, rfl, p, CS, dx, _, .ref f.O, rfl, hp, TS.cl, TS.n_owners, rfl, .int (st : Int), rfl, f.O, os, (st : Int), .ref tt, rfl, rfl, SqL.of hO, atI_nat ht1, tt, _, rfl, SqT.of ht2, rfl, _, _, rfl, _, _, rfl, _, _, rfl, rfl, ?_⟩
    refine ⟨.ref p, rfl, p, CS, dx, _, .ref f.B, rfl, hp, TS.cl, TS.n_blocks, rfl, .int (k : Int), rfl, f.B, _, (k : Int), .ref b.t, rfl, rfl, SqL.of hBl, atI_nat (bv_at hbk), b.t, _, rfl, SqT.of h1, rfl, _, _, rfl, _, _, rfl, _, _, rfl, _, _, rfl, _, _, rfl, rfl, ?_⟩
    refine ⟨fun σ' H' => σ' = [some (.ref p), some (.int (st : Int)), some (.int (k : Int)), some (.int (s : Int)), some (.int (e : Int)), some (.int b.a), some (.int b.b), some (.int b.c), some (.ref b.pt), some (.int (indM st s b)), none, none, none, none, none, none, none] ∧ H' = H, ?_, ?_⟩
    · refine ⟨.int (st : Int), rfl, .int (s : Int), rfl, rfl, _, rfl, ite2 (fun h => ?_) (fun h => ?_)⟩
      · have hss : st = s := by have := V.int.inj (of_decide_eq_true h); omega
        refine ⟨.int b.b, rfl, ?_, rfl⟩
        unfold indM; rw [if_pos hss]; rfl
      · refine ⟨?_, rfl⟩
        unfold indM; rw [if_neg (fun z => h (decide_eq_true (congrArg V.int (by omega))))]; rfl
    rintro σ' H' ⟨rfl, rfl⟩
    refine ⟨fun σ' H2 => σ' = [some (.ref p), some (.int (st : Int)), some (.int (k : Int)), some (.int (s : Int)), some (.int (e : Int)), some (.int b.a), some (.int b.b), some (.int b.c), some (.ref b.pt), some (.int (indM st s b)), some (.int (b.a + if st = s then b.c else 0)), none, none, none, none, none, none] ∧ H2 = H', ?_, ?_⟩
    · refine ⟨.int (st : Int), rfl, .int (s : Int), rfl, rfl, _, rfl, ite2 (fun h => ?_) (fun h => ?_)⟩
      · have hss : st = s := by have := V.int.inj (of_decide_eq_true h); omega
        refine ⟨.int b.a, rfl, .int b.c, rfl, _, _, rfl, rfl, ?_, rfl⟩
        rw [if_pos hss]; rfl
      · refine ⟨.int b.a, rfl, ?_, rfl⟩
        rw [if_neg (fun z => h (decide_eq_true (congrArg V.int (by omega)))), Int.add_zero]; rfl
    rintro σ' H2' ⟨rfl, rfl⟩
    refine ⟨Nat.zero_le _, fun R nR => ?_⟩
    have s0 := same_new nR (o := .lst [])
    have hR : (upd H2' R (.lst [])) R = some (.lst (lv [])) := upd_same
    generalize upd H2' R (.lst []) = H0 at s0 hR ⊢
    refine ⟨.int (st : Int), rfl, _, _, rfl, rfl, .int (e : Int), rfl, _, _, rfl, rfl, (st : Int) + 1, (e : Int) + 1, rfl, ⟨by omega, by omega, by omega, by omega⟩, ?_⟩
    have eN : ((e : Int) + 1 - ((st : Int) + 1)).toNat = e - st := by omega
    rw [eN]
    have fin : ∀ (H3 : Hp) (ls : List Ln) (i : Nat), Same H2' H3 → H3 R = some (.lst (lv ls)) → (∀ x ∈ ls, LnT H3 x ∧ LnOk xs bs st s e b x) → ls.map (·.en) = endsM (numAt xs 0) bs st s b i → endsM (numAt xs 0) bs st s b (e - st) = endsM (numAt xs 0) bs st s b i → Q (.ref R) H3 := fun H3 ls i a1 a2 a3 a4 a5 => q H3 R ls a1 nR a2 a3 (a4.trans a5.symm)
    refine for_range (lo := (st : Int) + 1) (n := e - st) (fun i σ H' => ∃ (y12 y13 y14 y15 y16 : Option V) (ls : List Ln), σ = [some (.ref p), some (.int (st : Int)), some (.int (k : Int)), some (.int (s : Int)), some (.int (e : Int)), some (.int b.a), some (.int b.b), some (.int b.c), some (.ref b.pt), some (.int (indM st s b + sumH (segM bs st (st + i)) + sumB (segM bs st (st + i)))), some (.int (needM bs st (st + i) s b)), some (.ref R), y12, y13, y14, y15, y16] ∧ Same H2' H' ∧ H' R = some (.lst (lv ls)) ∧ (∀ x ∈ ls, LnT H' x ∧ LnOk xs bs st s e b x) ∧ ls.map (·.en) = endsM (numAt xs 0) bs st s b i)
      ⟨none, none, none, none, none, [], by
        unfold needM
        rw [Nat.add_zero, segM_zero]
        show _ = ([some (.ref p), some (.int (st : Int)), some (.int (k : Int)), some (.int (s : Int)), some (.int (e : Int)), some (.int b.a), some (.int b.b), some (.int b.c), some (.ref b.pt), some (.int (indM st s b + 0 + 0)), some (.int (b.a + (if st = s then b.c else 0) + 0)), some (.ref R), none, none, none, none, none] : L2.St)
        rw [Int.add_zero, Int.add_zero, Int.add_zero]; rfl, s0, hR, (fun x h => nomatch h), rfl⟩ ?_ ?_
    · rintro i σ H3 hi ⟨y12, y13, y14, y15, y16, ls, rfl, s3, hR3, hls, hle⟩
      have e0 : (st : Int) + 1 + (i : Int) = ((st + 1 + i : Nat) : Int) := by omega
      rw [e0]
      have hlt : st + i < (pcs bs).length := by omega
      obtain ⟨pc, epc⟩ : ∃ x, (pcs bs)[st + i]? = some x := ⟨_, List.getElem?_eq_getElem hlt⟩
      have hpm := List.mem_of_getElem? epc
      have pcn := hnn pc hpm
      obtain ⟨c1, c2, c3, c4, c5, c6, c7⟩ := (hb.kp (Kp.of s3)).pcs pc hpm
      have es : segM bs st (st + 1 + i) = segM bs st (st + i) ++ [pc] := by rw [show st + 1 + i = st + i + 1 by omega]; exact segM_succ epc
      have ee : ((st + 1 + i : Nat) : Int) - 1 = ((st + i : Nat) : Int) := by omega
      have hA3 := s3 _ _ hA
      have hp3 := s3 _ _ hp
      have hk3 := s3 _ _ hk
      have at' : atI (pv' (pcs bs)) (((st + 1 + i : Nat) : Int) - 1) = some (.ref pc.t) := by rw [ee]; exact atI_nat (pv_at epc)
      have nat_e : natM (segM bs st (st + 1 + i)) (indM st s b) = indM st s b + sumH (segM bs st (st + i)) + sumB (segM bs st (st + i)) + pc.h + jo pc := by rw [es, natM_snoc, sumH_snoc]; omega
      have hjo : pc.tw = Str.ofString "joint" → jo pc = pc.tn.getD 0 := fun e => if_pos e
      have hjn : ¬ pc.tw = Str.ofString "joint" → jo pc = 0 := fun e => if_neg e
      have hj : hjM bs (st + 1 + i) = decide (pc.tw = Str.ofString "joint") := by unfold hjM; rw [show st + 1 + i - 1 = st + i by omega, epc]
      refine ⟨.ref p, rfl, p, CS, dx, _, .ref f.A, rfl, hp3, TS.cl, TS.n_all, rfl, .int _, rfl, _, _, rfl, rfl, f.A, _, _, .ref pc.t, rfl, rfl, SqL.of hA3, at', pc.t, _, 0, .int pc.h, rfl, rfl, SqT.of c1, rfl, .ref p, rfl, p, CS, dx, _, .ref f.A, rfl, hp3, TS.cl, TS.n_all, rfl, .int _, rfl, _, _, rfl, rfl, f.A, _, _, .ref pc.t, rfl, rfl, SqL.of hA3, at', pc.t, _, 1, .ref pc.ti, rfl, rfl, SqT.of c1, rfl, _, _, rfl, ?_⟩
      refine ⟨.int _, rfl, .ref p, rfl, p, CS, dx, _, .ref f.A, rfl, hp3, TS.cl, TS.n_all, rfl, .int _, rfl, _, _, rfl, rfl, f.A, _, _, .ref pc.t, rfl, rfl, SqL.of hA3, at', pc.t, _, 2, .ref pc.no, rfl, rfl, SqT.of c1, rfl, pc.no, pc.notes, rfl, SqT.of c4, _, _, rfl, rfl, ?_⟩
      refine ⟨.int _, rfl, .int pc.h, rfl, _, _, rfl, rfl, ?_⟩
      have en : needM bs st (st + i) s b + pc.notes.sum = needM bs st (st + 1 + i) s b := by unfold needM; rw [es, sumN_snoc]; omega
      obtain ⟨inn, hinn⟩ : ∃ x, x = indM st s b + sumH (segM bs st (st + i)) + sumB (segM bs st (st + i)) + pc.h := ⟨_, rfl⟩
      have long : inn > numAt xs 0 → i ≠ 0 → ∀ j, i ≤ j → j < e - st → okL (numAt xs 0) bs st s b (st + 1 + j) = false := fun h1 h2 j h3 h4 => by
        obtain ⟨ms, em, hm⟩ := seg_split bs st (i + 1) (j + 1) (by omega)
        have hg := nat_grows (rs := segM bs st (st + i)) (q := pc) (ms := ms) (ind := indM st s b) (fun p hp => hnn p (hm p hp)) pcn
        unfold okL
        rw [decide_eq_false (by omega), Bool.false_or]
        refine decide_eq_false fun z => ?_
        rw [show st + 1 + j = st + (j + 1) by omega, em, show st + (i + 1) = st + 1 + i by omega, es] at z
        rw [sumH_snoc] at hg
        omega
      refine ⟨fun σ' H' => σ' = [some (.ref p), some (.int (st : Int)), some (.int (k : Int)), some (.int (s : Int)), some (.int (e : Int)), some (.int b.a), some (.int b.b), some (.int b.c), some (.ref b.pt), some (.int (inn)), some (.int (needM bs st (st + 1 + i) s b)), some (.ref R), some (.int ((st + 1 + i : Nat) : Int)), some (.int pc.h), some (.ref pc.ti), y15, y16] ∧ H' = H3 ∧ (inn ≤ numAt xs 0 ∨ i = 0), ?_, ?_⟩
      · show RV.tIfC _ _ _ _ ([some (.ref p), some (.int (st : Int)), some (.int (k : Int)), some (.int (s : Int)), some (.int (e : Int)), some (.int b.a), some (.int b.b), some (.int b.c), some (.ref b.pt), some (.int (indM st s b + sumH (segM bs st (st + i)) + sumB (segM bs st (st + i)) + pc.h)), some (.int (needM bs st (st + i) s b + pc.notes.sum)), some (.ref R), some (.int ((st + 1 + i : Nat) : Int)), some (.int pc.h), some (.ref pc.ti), y15, y16] : L2.St) _
        rw [← hinn, en]
        refine ⟨fun c H' => c = decide (inn > numAt xs 0 ∧ i ≠ 0) ∧ H' = H3, ?_, ?_, ?_⟩
        · refine ⟨.int inn, rfl, .ref p, rfl, p, CS, dx, _, .ref f.bk, rfl, hp3, TS.cl, TS.n_book, rfl, f.bk, CB, dk, _, .int (numAt xs 0), rfl, hk3, TB.cl, TB.n_room, k0, _, _, rfl, rfl, _, rfl, ite2 (fun h => ?_) (fun h => ?_)⟩
          · have h := of_decide_eq_true h
            refine ⟨.int _, rfl, .int _, rfl, _, _, rfl, rfl, _, _, rfl, rfl, _, rfl, ?_, rfl⟩
            rw [Bool.eq_iff_iff, decide_eq_true_iff, decide_eq_true_iff]
            exact ⟨fun z => ⟨h, by omega⟩, fun z => by have := z.2; omega⟩
          · refine ⟨?_, rfl⟩
            rw [decide_eq_false fun z => h (decide_eq_true z.1)]
        · rintro H' ⟨h, rfl⟩
          have h := of_decide_eq_true h.symm
          exact ⟨.ref R, rfl, fin _ ls i s3 hR3 hls hle (endsM_stop (by omega) (long h.1 h.2))⟩
        · rintro H' ⟨h, rfl⟩
          have h := of_decide_eq_false h.symm
          exact ⟨rfl, rfl, by omega⟩
      rintro σ' H4 ⟨rfl, rfl, hio⟩
      obtain ⟨wh, hwh⟩ : ∃ x, x = natM (segM bs st (st + 1 + i)) (indM st s b) := ⟨_, rfl⟩
      rw [nat_e, ← hinn] at hwh
      have wh_e : natM (segM bs st (st + 1 + i)) (indM st s b) = wh := by rw [nat_e, ← hinn, hwh]
      refine ⟨fun σ' H' => σ' = [some (.ref p), some (.int (st : Int)), some (.int (k : Int)), some (.int (s : Int)), some (.int (e : Int)), some (.int b.a), some (.int b.b), some (.int b.c), some (.ref b.pt), some (.int (inn)), some (.int (needM bs st (st + 1 + i) s b)), some (.ref R), some (.int ((st + 1 + i : Nat) : Int)), some (.int pc.h), some (.ref pc.ti), some (.int wh), y16] ∧ H' = H4, ?_, ?_⟩
      · refine ⟨.ref pc.ti, rfl, pc.ti, _, 0, .str pc.tw, rfl, rfl, SqT.of c2, (show atI (V.str pc.tw :: _) ((0 : Nat) : Int) = _ from atI_nat rfl), rfl, _, rfl, ite2 (fun h => ?_) (fun h => ?_)⟩
        · have hjt : pc.tw = Str.ofString "joint" := V.str.inj (of_decide_eq_true h)
          obtain ⟨n, en'⟩ := pcn.1 (.inr hjt)
          refine ⟨.int inn, rfl, .ref pc.ti, rfl, pc.ti, _, 1, .int n, rfl, rfl, SqT.of c2, (by show atI (tieV pc) ((1 : Nat) : Int) = _; unfold tieV; rw [en']; exact atI_nat rfl), _, _, rfl, rfl, ?_, rfl⟩
          rw [hwh, hjo hjt, en']; rfl
        · have hjt : ¬ pc.tw = Str.ofString "joint" := fun e => h (decide_eq_true (congrArg V.str e))
          refine ⟨.int inn, rfl, ?_, rfl⟩
          rw [hwh, hjn hjt, Int.add_zero]; rfl
      rintro σ' H5 ⟨rfl, rfl⟩
      have okE : okL (numAt xs 0) bs st s b (st + 1 + i) = decide (wh ≤ numAt xs 0 ∨ i = 0) := by
        unfold okL
        rw [wh_e, Bool.eq_iff_iff, Bool.or_eq_true, decide_eq_true_iff, decide_eq_true_iff, decide_eq_true_iff]
        constructor
        · rintro (h | h)
          · exact .inr (by omega)
          · exact .inl h
        · rintro (h | h)
          · exact .inr h
          · exact .inl (by omega)
      refine ⟨fun σ' H' => ∃ y16 ls, σ' = [some (.ref p), some (.int (st : Int)), some (.int (k : Int)), some (.int (s : Int)), some (.int (e : Int)), some (.int b.a), some (.int b.b), some (.int b.c), some (.ref b.pt), some (.int (inn)), some (.int (needM bs st (st + 1 + i) s b)), some (.ref R), some (.int ((st + 1 + i : Nat) : Int)), some (.int pc.h), some (.ref pc.ti), some (.int wh), y16] ∧ Same H2' H' ∧ H' R = some (.lst (lv ls)) ∧ (∀ x ∈ ls, LnT H' x ∧ LnOk xs bs st s e b x) ∧ ls.map (·.en) = endsM (numAt xs 0) bs st s b (i + 1), ?_, ?_⟩
      · refine ⟨fun c H' => c = okL (numAt xs 0) bs st s b (st + 1 + i) ∧ H' = H5, ?_, ?_, ?_⟩
        · rw [okE]
          refine ⟨.int wh, rfl, .ref p, rfl, p, CS, dx, _, .ref f.bk, rfl, hp3, TS.cl, TS.n_book, rfl, f.bk, CB, dk, _, .int (numAt xs 0), rfl, hk3, TB.cl, TB.n_room, k0, _, _, rfl, rfl, _, rfl, ite2 (fun h => ?_) (fun h => ?_)⟩
          · have h := of_decide_eq_true h
            refine ⟨?_, rfl⟩
            rw [decide_eq_true (.inl h)]
          · refine ⟨.int _, rfl, .int _, rfl, _, _, rfl, rfl, rfl, _, rfl, ?_, rfl⟩
            rw [Bool.eq_iff_iff, decide_eq_true_iff, decide_eq_true_iff]
            constructor
            · intro z; have := V.int.inj z; exact .inr (by omega)
            · rintro (z | z)
              · exact absurd (decide_eq_true z) h
              · exact congrArg V.int (by omega)
        · rintro H' ⟨h, rfl⟩
          have wh0 : 0 ≤ wh := by
            rw [← wh_e]
            exact natM_nn (fun x hx => hnn x (seg_mem hx)) (by unfold indM; split; exact hb0; exact Int.le_refl _)
          refine ⟨.ref p, rfl, p, CS, dx, _, .ref f.bk, rfl, hp3, TS.cl, TS.n_book, rfl, .int wh, rfl, .int _, rfl, .int (e : Int), rfl, rfl, .ref pc.ti, rfl, pc.ti, _, 0, .str pc.tw, rfl, rfl, SqT.of c2, (show atI (V.str pc.tw :: _) ((0 : Nat) : Int) = _ from atI_nat rfl), rfl, f.bk, xs, wh, _, _, rfl, hB.same s3, gx, wh0, ?_⟩
          refine ⟨.ref R, rfl, .inl ⟨rfl, _, SqL.of hR3⟩, .int _, rfl, .int wh, rfl, .int _, rfl, .int _, rfl, .int (st : Int), rfl, .int (s : Int), rfl, rfl, .int _, rfl, .int (e : Int), rfl, rfl, by show 6 ≤ sizeLine; decide, fun t nt => ?_⟩
          have d1 : decide (V.int ((st + 1 + i : Nat) : Int) = V.int (e : Int)) = decide (e = st + 1 + i) := by
            rw [Bool.eq_iff_iff, decide_eq_true_iff, decide_eq_true_iff]
            exact ⟨fun z => by have := V.int.inj z; omega, fun z => congrArg V.int (by omega)⟩
          have d2 : decide (V.str pc.tw = V.str (Str.ofString "joint")) = decide (pc.tw = Str.ofString "joint") := by
            rw [Bool.eq_iff_iff, decide_eq_true_iff, decide_eq_true_iff]
            exact ⟨fun z => V.str.inj z, fun z => by rw [z]⟩
          have d3 : decide (V.int (st : Int) = V.int (s : Int)) = decide (st = s) := by
            rw [Bool.eq_iff_iff, decide_eq_true_iff, decide_eq_true_iff]
            exact ⟨fun z => by have := V.int.inj z; omega, fun z => congrArg V.int (by omega)⟩
          rw [d1, d2, d3]
          generalize hco : priceM (numAt xs 0) (numAt xs 3) (numAt xs 2) wh (decide (e = st + 1 + i)) (decide (pc.tw = Str.ofString "joint")) = co
          have st' := same_new nt (o := .tup [.int ((st + 1 + i : Nat) : Int), .int wh, .int co, .int (needM bs st (st + 1 + i) s b), .bl (decide (st = s)), .bl (decide (e = st + 1 + i))])
          have ht : (upd H' t (.tup [.int ((st + 1 + i : Nat) : Int), .int wh, .int co, .int (needM bs st (st + 1 + i) s b), .bl (decide (st = s)), .bl (decide (e = st + 1 + i))])) t = some (.tup [.int ((st + 1 + i : Nat) : Int), .int wh, .int co, .int (needM bs st (st + 1 + i) s b), .bl (decide (st = s)), .bl (decide (e = st + 1 + i))]) := upd_same
          generalize upd H' t (.tup [.int ((st + 1 + i : Nat) : Int), .int wh, .int co, .int (needM bs st (st + 1 + i) s b), .bl (decide (st = s)), .bl (decide (e = st + 1 + i))]) = H6 at st' ht ⊢
          have hR6 := st' _ _ hR3
          have kp : Kp H6 (upd H6 R (.lst (lv ls ++ [.ref t]))) := Kp.but hR6 (fun z => z) upd_but
          have hll : ls.length ≤ i := by
            have := congrArg List.length hle
            rw [List.length_map] at this
            rw [this]; unfold endsM
            exact Nat.le_trans (List.length_filter_le _ _) (by rw [List.length_range']; exact Nat.le_refl _)
          refine ⟨R, _, .ref t, rfl, rfl, hR6, (by unfold lv; rw [List.length_map]; exact small1000 (by omega)), _, ls ++ [⟨t, st + 1 + i, wh, co, needM bs st (st + 1 + i) s b, decide (st = s), decide (e = st + 1 + i)⟩], rfl, same_at (s3.trans st') nR, by rw [upd_same]; exact congrArg (fun x => some (HO.lst x)) (lv_snoc ls ⟨t, st + 1 + i, wh, co, needM bs st (st + 1 + i) s b, decide (st = s), decide (e = st + 1 + i)⟩), fun x hx => ?_, ?_⟩
          · rcases List.mem_append.mp hx with hx | hx
            · exact ⟨kp.tup (st' _ _ (hls x hx).1), (hls x hx).2⟩
            · rw [List.mem_singleton.mp hx]
              refine ⟨kp.tup ht, wh_e.symm, ?_, rfl, rfl, rfl⟩
              show co = priceM _ _ _ (natM (segM bs st (st + 1 + i)) (indM st s b)) _ (hjM bs (st + 1 + i))
              rw [wh_e, hj, ← hco]
          · rw [List.map_append, hle, endsM_succ, if_pos h.symm]; rfl
        · rintro H' ⟨h, rfl⟩
          refine ⟨_, ls, rfl, s3, hR3, hls, ?_⟩
          rw [hle, endsM_succ, ← h, if_neg (by decide), List.append_nil]
      rintro σ' H6 ⟨y16, ls', rfl, s6, hR6, hls6, hle6⟩
      have c2 := (hb.kp (Kp.of s6)).pcs pc hpm |>.2.1
      refine ⟨.ref pc.ti, rfl, pc.ti, _, 0, .str pc.tw, rfl, rfl, SqT.of c2, (show atI (V.str pc.tw :: _) ((0 : Nat) : Int) = _ from atI_nat rfl), rfl, _, rfl, ite2 (fun h => ?_) (fun h => ?_)⟩
      · have hbk' : pc.tw = Str.ofString "blank" := V.str.inj (of_decide_eq_true h)
        obtain ⟨n, en'⟩ := pcn.1 (.inl hbk')
        refine ⟨.int inn, rfl, .ref pc.ti, rfl, pc.ti, _, 1, .int n, rfl, rfl, SqT.of c2, (by show atI (tieV pc) ((1 : Nat) : Int) = _; unfold tieV; rw [en']; exact atI_nat rfl), _, _, rfl, rfl, some (.int ((st + 1 + i : Nat) : Int)), some (.int pc.h), some (.ref pc.ti), some (.int wh), y16, ls', ?_, s6, hR6, hls6, hle6⟩
        have ei : indM st s b + sumH (segM bs st (st + (i + 1))) + sumB (segM bs st (st + (i + 1))) = inn + n := by
          rw [show st + (i + 1) = st + 1 + i by omega, es, sumH_snoc, sumB_snoc, hinn]
          unfold bl; rw [if_pos hbk', en']; show _ = _ + _ + _ + _ + _; simp only [Option.getD]; omega
        rw [ei, show st + (i + 1) = st + 1 + i by omega]; rfl
      · refine ⟨some (.int ((st + 1 + i : Nat) : Int)), some (.int pc.h), some (.ref pc.ti), some (.int wh), y16, ls', ?_, s6, hR6, hls6, hle6⟩
        have ei : indM st s b + sumH (segM bs st (st + (i + 1))) + sumB (segM bs st (st + (i + 1))) = inn := by
          rw [show st + (i + 1) = st + 1 + i by omega, es, sumH_snoc, sumB_snoc, hinn]
          unfold bl; rw [if_neg (fun e => h (decide_eq_true (congrArg V.str e)))]; omega
        rw [ei, show st + (i + 1) = st + 1 + i by omega]
    · rintro σ H3 ⟨y12, y13, y14, y15, y16, ls, rfl, s3, hR3, hls, hle⟩
      exact ⟨.ref R, rfl, fin H3 ls _ s3 hR3 hls hle rfl⟩
end
end K37

set_option maxRecDepth 100000
set_option maxHeartbeats 8000000
namespace K37
open PySem PySem.Spec PyProof.Rows L2
/-! ### Steps' small methods -/
theorem lk_more {xs : List V} (g : Bo.Good xs) (w : Addr) : (Bo.fsB xs w).lookup ("height" : Str) = some (.int (numAt xs 1)) ∧ (Bo.fsB xs w).lookup ("keep" : Str) = some (.int (numAt xs 4)) ∧ (Bo.fsB xs w).lookup ("orphan" : Str) = some (.int (numAt xs 5)) ∧ (Bo.fsB xs w).lookup ("widow" : Str) = some (.int (numAt xs 6)) ∧ (Bo.fsB xs w).lookup ("wait" : Str) = some (.int (numAt xs 7)) := by
  have n1 := (good_num g (k := 1) (by decide)).1
  have n4 := (good_num g (k := 4) (by decide)).1
  have n5 := (good_num g (k := 5) (by decide)).1
  have n6 := (good_num g (k := 6) (by decide)).1
  have n7 := (good_num g (k := 7) (by decide)).1
  generalize numAt xs 1 = a1 at n1 ⊢
  generalize numAt xs 4 = a4 at n4 ⊢
  generalize numAt xs 5 = a5 at n5 ⊢
  generalize numAt xs 6 = a6 at n6 ⊢
  generalize numAt xs 7 = a7 at n7 ⊢
  obtain ⟨x0, x1, x2, x3, x4, x5, x6, x7, x8, x9, x10, rfl⟩ := Bo.len11 g.1
  cases n1; cases n4; cases n5; cases n6; cases n7
  exact ⟨rfl, rfl, rfl, rfl, rfl⟩
def StT (H : Hp) (s0 : Addr) (d : Nat) (us : Int) (pl : Nat) (fi : Bool) : Prop := H s0 = some (.tup [.int (d : Int), .int us, .int (pl : Int), .bl fi])
def keepM (bs : List Bk) : Nat → Bool
  | 0 => false
  | j + 1 => match (spans 0 0 bs)[j]? with
    | some (k, _, e) => decide (e = j + 1) && (match bs[k]? with
      | some b => b.f
      | none => false)
    | none => false
def openM (xs : List V) (bs : List Bk) (d : Nat) (us : Int) (left : Int) (fi wd : Bool) : Int := posM (numAt xs 1 - us) * posM (numAt xs 1 - us) + numAt xs 7 * left + (if keepM bs d = true then numAt xs 4 else 0) + (if fi = true then numAt xs 5 else 0) + (if wd = true then numAt xs 6 else 0)
section
variable {P : Program} {w : World} {K : PySem.W.Frag} {mg : Str → Option Value} {base : Heap} {t3 t4 : Tok} {C CS CN CB FT fi fl fb pp gp pf gf : Addr} {mc u : Value} {di dl db dp df : FuncData}
def spIf (CS : Addr) : Sp := fun vs H Q _ => ∃ (p s0 : Addr) (f : F7) (bs : List Bk) (kvs : List (Key × V)) (d : Nat) (us : Int) (pl : Nat) (fi : Bool), vs = [.ref p, .ref s0] ∧ StA CS H p f bs kvs ∧ StT H s0 d us pl fi ∧ Q (.bl (decide (d = (pcs bs).length))) H
abbrev pSs : List Str := ["self", "state"]
theorem scIf : FnScope pSs pSs (defScope sSFinal) := ⟨rfl, rfl, rfl, by decide +kernel, rfl, by decide +kernel, by decide +kernel⟩
theorem ok_if {f : Addr} {fd : FuncData} (B : Blt mg) (TS : Stp K mg CS) (F : Fun K "is_final" "Steps.is_final" sSFinal f fd) : FnOk P w K mg base CX0 1 f fd pSs (spIf CS) := by
  refine F.ok scIf (fun vs H Q E h => ?_) (fun cdv A0 outer s H vs Q E hr h => ?_)
  · obtain ⟨p, s0, f, bs, kvs, d, us, pl, fi, rfl, _⟩ := h; rfl
  · obtain ⟨p, s0, f, bs, kvs, d, us, pl, fi, rfl, sA, hst, q⟩ := h
    obtain ⟨dx, os, hp, hBl, hA, hO, hT, hh, hc, hl, hb⟩ := id sA
    refine ⟨_, (pss_one (ps_ret (pe_cmpR op_eq (pe_ix ix_tup (pv 1) pe_int (fun _ _ => rfl)) (pe_callB call_len (by rfl) B.len PySem.boot_len (pa_cons (pe_fld (pv 0) rfl) pa_nil)) (nomark _)))), ?_⟩
    have e : decide (V.int (d : Int) = V.int ((pcs bs).length : Int)) = decide (d = (pcs bs).length) := by
      rw [Bool.eq_iff_iff, decide_eq_true_iff, decide_eq_true_iff]
      exact ⟨fun z => by have := V.int.inj z; omega, fun z => congrArg V.int (by omega)⟩
    rw [← e] at q
    exact ⟨.ref s0, rfl, s0, _, 0, .int (d : Int), rfl, rfl, SqT.of hst, rfl, .ref p, rfl, p, CS, dx, _, .ref f.A, rfl, hp, TS.cl, TS.n_all, rfl, .ref f.A, (pcs bs).length, rfl, .inl ⟨_, SqL.of hA, (pv_len _).symm⟩, rfl, q⟩
def spFc (CS CB : Addr) : Sp := fun vs H Q _ => ∃ (p s0 : Addr) (f : F7) (bs : List Bk) (kvs : List (Key × V)) (xs : List V) (d : Nat) (us : Int) (pl : Nat) (fi : Bool), vs = [.ref p, .ref s0] ∧ StA CS H p f bs kvs ∧ Bo.BookA CB H f.bk xs ∧ Bo.Good xs ∧ StT H s0 d us pl fi ∧ Q (.int (numAt xs 7 * (((figs (pcs bs)).length : Int) - (pl : Int)))) H
theorem scFc : FnScope pSs pSs (defScope sSCost) := ⟨rfl, rfl, rfl, by decide +kernel, rfl, by decide +kernel, by decide +kernel⟩
theorem ok_fc {f : Addr} {fd : FuncData} (B : Blt mg) (TB : Bo.Bok K mg CB FT mc u) (TS : Stp K mg CS) (F : Fun K "final_cost" "Steps.final_cost" sSCost f fd) : FnOk P w K mg base CX0 1 f fd pSs (spFc CS CB) := by
  refine F.ok scFc (fun vs H Q E h => ?_) (fun cdv A0 outer s H vs Q E hr h => ?_)
  · obtain ⟨p, s0, f, bs, kvs, xs, d, us, pl, fi, rfl, _⟩ := h; rfl
  · obtain ⟨p, s0, f, bs, kvs, xs, d, us, pl, fi, rfl, sA, hB, gx, hst, q⟩ := h
    obtain ⟨dx, os, hp, hBl, hA, hO, hT, hh, hc, hl, hb⟩ := id sA
    obtain ⟨dk, w0, hk, hw⟩ := id hB
    obtain ⟨k1, k4, k5, k6, k7⟩ := lk_more gx w0
    obtain ⟨_, a1, a2⟩ := good_num gx (k := 7) (by decide)
    have a1 : 0 ≤ numAt xs 7 := a1
    have a2 : numAt xs 7 ≤ 2000 := a2
    refine ⟨_, (pss_one (ps_ret (pe_op op_mul (pe_fld (pe_fld (pv 0) rfl) rfl) (pe_op op_sub (pe_callB call_len (by rfl) B.len PySem.boot_len (pa_cons (pe_fld (pv 0) rfl) pa_nil)) (pe_ix ix_tup (pv 1) pe_int (fun _ _ => rfl)))))), ?_⟩
    exact ⟨.ref p, rfl, p, CS, dx, _, .ref f.bk, rfl, hp, TS.cl, TS.n_book, rfl, f.bk, CB, dk, _, .int (numAt xs 7), rfl, hk, TB.cl, TB.n_wait, k7, .ref p, rfl, p, CS, dx, _, .ref f.h, rfl, hp, TS.cl, TS.n_heights, rfl, .ref f.h, (figs (pcs bs)).length, rfl, .inl ⟨_, SqL.of hh, (List.length_map _).symm⟩, .ref s0, rfl, s0, _, 2, .int (pl : Int), rfl, rfl, SqT.of hst, rfl, _, _, rfl, rfl, _, _, rfl, rfl, .inl ⟨by omega, by omega⟩, q⟩
def spFh (CS CB : Addr) : Sp := fun vs H Q _ => ∃ (p s0 : Addr) (f : F7) (bs : List Bk) (kvs : List (Key × V)) (xs : List V) (d : Nat) (us : Int) (pl : Nat) (fi : Bool), vs = [.ref p, .ref s0] ∧ StA CS H p f bs kvs ∧ Bo.BookA CB H f.bk xs ∧ Bo.Good xs ∧ StT H s0 d us pl fi ∧ Q (.int (posM (numAt xs 1 - us))) H
theorem scFh : FnScope pSs pSs (defScope sSFree) := ⟨rfl, rfl, rfl, by decide +kernel, rfl, by decide +kernel, by decide +kernel⟩
theorem ok_fh {f : Addr} {fd : FuncData} (B : Blt mg) (TB : Bo.Bok K mg CB FT mc u) (TS : Stp K mg CS) (F : Fun K "free_height" "Steps.free_height" sSFree f fd) : FnOk P w K mg base CX0 1 f fd pSs (spFh CS CB) := by
  refine F.ok scFh (fun vs H Q E h => ?_) (fun cdv A0 outer s H vs Q E hr h => ?_)
  · obtain ⟨p, s0, f, bs, kvs, xs, d, us, pl, fi, rfl, _⟩ := h; rfl
  · obtain ⟨p, s0, f, bs, kvs, xs, d, us, pl, fi, rfl, sA, hB, gx, hst, q⟩ := h
    obtain ⟨dx, os, hp, hBl, hA, hO, hT, hh, hc, hl, hb⟩ := id sA
    obtain ⟨dk, w0, hk, hw⟩ := id hB
    obtain ⟨k1, k4, k5, k6, k7⟩ := lk_more gx w0
    refine ⟨_, (pss_one (ps_ret (pe_callB (call_max2 rfl) (by rfl) B.max (by decide +kernel) (pa_cons pe_int (pa_cons (pe_op op_sub (pe_fld (pe_fld (pv 0) rfl) rfl) (pe_ix ix_tup (pv 1) pe_int (fun _ _ => rfl))) pa_nil))))), ?_⟩
    exact ⟨.ref p, rfl, p, CS, dx, _, .ref f.bk, rfl, hp, TS.cl, TS.n_book, rfl, f.bk, CB, dk, _, .int (numAt xs 1), rfl, hk, TB.cl, TB.n_height, k1, .ref s0, rfl, s0, _, 1, .int us, rfl, rfl, SqT.of hst, rfl, _, _, rfl, rfl, _, _, rfl, q⟩
def spBk (CS : Addr) : Sp := fun vs H Q _ => ∃ (p s0 : Addr) (f : F7) (bs : List Bk) (kvs : List (Key × V)) (d : Nat) (us : Int) (pl : Nat) (fi : Bool), vs = [.ref p, .ref s0] ∧ StA CS H p f bs kvs ∧ StT H s0 d us pl fi ∧ d ≤ (pcs bs).length ∧ Q (.bl (keepM bs d)) H
theorem scBk : FnScope ["self", "state", "done", "index", "_", "behind"] pSs (defScope sSKeep) := ⟨rfl, rfl, rfl, by decide +kernel, rfl, by decide +kernel, by decide +kernel⟩
theorem ok_bk {f : Addr} {fd : FuncData} (B : Blt mg) (TS : Stp K mg CS) (F : Fun K "is_behind_keep" "Steps.is_behind_keep" sSKeep f fd) : FnOk P w K mg base CX0 1 f fd pSs (spBk CS) := by
  refine F.ok scBk (fun vs H Q E h => ?_) (fun cdv A0 outer s H vs Q E hr h => ?_)
  · obtain ⟨p, s0, f, bs, kvs, d, us, pl, fi, rfl, _⟩ := h; rfl
  · obtain ⟨p, s0, f, bs, kvs, d, us, pl, fi, rfl, sA, hst, hdl, q⟩ := h
    obtain ⟨dx, os, hp, hBl, hA, hO, hT, hh, hc, hl, hb⟩ := id sA
    refine ⟨_, (pss_cons (ps_set (i := 2) scBk.nd rfl (.inl rfl) (pe_ix ix_tup (pv 1) pe_int (fun _ _ => rfl)))
      (pss_cons (ps_if (pt_cmpR op_eq (pv 2) pe_int (nomark _))
      (pss_one (ps_ret pe_bl))
      pss_nil)
      (pss_cons (ps_asg (pe_ix ix_list (pe_fld (pv 0) rfl) (pe_op op_sub (pv 2) pe_int) (fun _ _ => rfl)) (pg_tup rfl (pgs_cons (pg_name (i := 3) scBk.nd rfl (.inl rfl)) (pgs_cons (pg_name (i := 4) scBk.nd rfl (.inl rfl)) (pgs_cons (pg_name (i := 5) scBk.nd rfl (.inl rfl)) pgs_nil)))))
      (pss_one (ps_ret (pe_and (pe_cmpR op_eq (pv 5) (pv 2) (nomark _)) (pe_one (pe_ix ix_tup (pe_ix ix_list (pe_fld (pv 0) rfl) (pv 3) (fun _ _ => rfl)) pe_int (fun _ _ => rfl))))))))), ?_⟩
    refine ⟨.ref s0, rfl, s0, _, 0, .int (d : Int), rfl, rfl, SqT.of hst, rfl, .int (d : Int), rfl, rfl, _, rfl, ite2 (fun h => ?_) (fun h => ?_)⟩
    · have hd : d = 0 := by have := V.int.inj (of_decide_eq_true h); omega
      subst hd; exact q
    · cases d with
      | zero => exact absurd (decide_eq_true rfl) h
      | succ j =>
        have hj : j < (spans 0 0 bs).length := by rw [spans_len]; omega
        obtain ⟨k, s, e, esp⟩ : ∃ k s e, (spans 0 0 bs)[j]? = some (k, s, e) := ⟨_, _, _, List.getElem?_eq_getElem hj⟩
        obtain ⟨b, _, k2, _⟩ := spans_at esp
        rw [Nat.sub_zero] at k2
        obtain ⟨tt, ht1, ht2⟩ := hT.2 j k s e esp
        obtain ⟨h1, _⟩ := hb b (List.mem_of_getElem? k2)
        have eq : keepM bs (j + 1) = (decide (e = j + 1) && b.f) := by
          show (match (spans 0 0 bs)[j]? with
            | some (k, _, e) => decide (e = j + 1) && (match bs[k]? with
              | some b => b.f
              | none => false)
            | none => false) = _
          rw [esp]
          show (decide (e = j + 1) && (match bs[k]? with
              | some b => b.f
              | none => false)) = _
          rw [k2]
        rw [eq] at q
        have ee : ((j + 1 : Nat) : Int) - 1 = ((j : Nat) : Int) := by omega
        refine ⟨.ref p, rfl, p, CS, dx, _, .ref f.O, rfl, hp, TS.cl, TS.n_owners, rfl, .int _, rfl, _, _, rfl, rfl, f.O, os, _, .ref tt, rfl, rfl, SqL.of hO, (by rw [ee]; exact atI_nat ht1), tt, _, rfl, SqT.of ht2, rfl, _, _, rfl, _, _, rfl, _, _, rfl, rfl, ?_⟩
        refine ⟨.int (e : Int), rfl, .int _, rfl, rfl, _, rfl, ite2 (fun h => ?_) (fun h => ?_)⟩
        · have he : e = j + 1 := by have := V.int.inj (of_decide_eq_true h); omega
          rw [decide_eq_true he, Bool.true_and] at q
          exact ⟨.ref p, rfl, p, CS, dx, _, .ref f.B, rfl, hp, TS.cl, TS.n_blocks, rfl, .int (k : Int), rfl, f.B, _, _, .ref b.t, rfl, rfl, SqL.of hBl, atI_nat (bv_at k2), b.t, _, 3, .bl b.f, rfl, rfl, SqT.of h1, rfl, q⟩
        · have he : ¬ e = j + 1 := fun z => h (decide_eq_true (congrArg V.int (by omega)))
          rw [decide_eq_false he, Bool.false_and] at q
          exact q
def spOp (CS CB : Addr) : Sp := fun vs H Q _ => ∃ (p s0 : Addr) (f : F7) (bs : List Bk) (kvs : List (Key × V)) (xs : List V) (d : Nat) (us : Int) (pl : Nat) (fi : Bool) (left : Int) (wd : Bool), vs = [.ref p, .ref s0, .int left, .bl wd] ∧ StA CS H p f bs kvs ∧ Bo.BookA CB H f.bk xs ∧ Bo.Good xs ∧ StT H s0 d us pl fi ∧ d ≤ (pcs bs).length ∧ 0 ≤ us ∧ Q (.int (openM xs bs d us left fi wd)) H
abbrev pOp : List Str := ["self", "state", "left", "is_widow"]
theorem scOp : FnScope ["self", "state", "left", "is_widow", "book", "free", "cost"] pOp (defScope sSOpen) := ⟨rfl, rfl, rfl, by decide +kernel, rfl, by decide +kernel, by decide +kernel⟩
theorem ok_op {f f_free_height f_is_behind_keep : Addr} {fd fd_free_height fd_is_behind_keep : FuncData} (B : Blt mg) (TB : Bo.Bok K mg CB FT mc u) (TS : Stp K mg CS) (F : Fun K "_opening_cost" "Steps._opening_cost" sSOpen f fd)
    (F_free_height : Fun K "free_height" "Steps.free_height" sSFree f_free_height fd_free_height) (b_free_height : Binds K fd_free_height pSs []) (m_free_height : Meth K CS "free_height" f_free_height) (F_is_behind_keep : Fun K "is_behind_keep" "Steps.is_behind_keep" sSKeep f_is_behind_keep fd_is_behind_keep) (b_is_behind_keep : Binds K fd_is_behind_keep pSs []) (m_is_behind_keep : Meth K CS "is_behind_keep" f_is_behind_keep) : FnOk P w K mg base CX0 2 f fd pOp (spOp CS CB) := by
  have G_free_height : FnOk P w K mg base CX0 1 f_free_height fd_free_height pSs (spFh CS CB) := ok_fh B TB TS F_free_height
  have G_is_behind_keep : FnOk P w K mg base CX0 1 f_is_behind_keep fd_is_behind_keep pSs (spBk CS) := ok_bk B TS F_is_behind_keep
  refine F.ok scOp (fun vs H Q E h => ?_) (fun cdv A0 outer s H vs Q E hr h => ?_)
  · obtain ⟨p, s0, f, bs, kvs, xs, d, us, pl, fi, left, wd, rfl, _⟩ := h; rfl
  · obtain ⟨p, s0, f, bs, kvs, xs, d, us, pl, fi, left, wd, rfl, sA, hB, gx, hst, hdl, hus, q⟩ := h
    have hr1 : Room 1 _ := hr
    obtain ⟨dx, os, hp, hBl, hA, hO, hT, hh, hc, hl, hb⟩ := id sA
    obtain ⟨dk, w0, hk, hw⟩ := id hB
    obtain ⟨k1, k4, k5, k6, k7⟩ := lk_more gx w0
    obtain ⟨_, a1, a2⟩ := good_num gx (k := 7) (by decide)
    have a1 : 0 ≤ numAt xs 7 := a1
    have a2 : numAt xs 7 ≤ 2000 := a2
    obtain ⟨_, _, a4⟩ := good_num gx (k := 1) (by decide)
    have a4 : numAt xs 1 ≤ 2000 := a4
    have fr : 0 ≤ posM (numAt xs 1 - us) ∧ posM (numAt xs 1 - us) ≤ 2000 := by unfold posM; split <;> omega
    refine ⟨_, (pss_cons (ps_set (i := 4) scOp.nd rfl (.inl rfl) (pe_fld (pv 0) rfl))
      (pss_cons (ps_set (i := 5) scOp.nd rfl (.inl rfl) (pe_meth (pv 0) TS.cl m_free_height G_free_height hr1 b_free_height .nil pass0 (pa_cons (pv 1) pa_nil)))
      (pss_cons (ps_set (i := 6) scOp.nd rfl (.inl rfl) (pe_op op_add (pe_op op_mul (pv 5) (pv 5)) (pe_op op_mul (pe_fld (pv 4) rfl) (pv 2))))
      (Evl.pss_cut (ps_if (pt_val (pe_meth (pv 0) TS.cl m_is_behind_keep G_is_behind_keep hr1 b_is_behind_keep .nil pass0 (pa_cons (pv 1) pa_nil)))
      (pss_one (ps_aug (i := 6) scOp.nd rfl (.inl rfl) (pe_fld (pv 4) rfl) ip_add))
      pss_nil)
      (Evl.pss_cut (ps_if (pt_val (pe_ix ix_tup (pv 1) pe_int (fun _ _ => rfl)))
      (pss_one (ps_aug (i := 6) scOp.nd rfl (.inl rfl) (pe_fld (pv 4) rfl) ip_add))
      pss_nil)
      (pss_cons (ps_if (pt_val (pv 3))
      (pss_one (ps_aug (i := 6) scOp.nd rfl (.inl rfl) (pe_fld (pv 4) rfl) ip_add))
      pss_nil)
      (pss_one (ps_ret (pv 6))))))))), ?_⟩
    refine ⟨.ref p, rfl, p, CS, dx, _, .ref f.bk, rfl, hp, TS.cl, TS.n_book, rfl, ?_⟩
    refine ⟨.ref p, rfl, p, dx, _, rfl, hp, rfl, .ref s0, rfl, p, s0, f, bs, kvs, xs, d, us, pl, fi, rfl, sA, hB, gx, hst, ?_⟩
    unfold openM at q
    generalize posM (numAt xs 1 - us) = fr0 at q fr ⊢
    refine ⟨.int fr0, rfl, .int fr0, rfl, _, _, rfl, rfl, .inl ⟨by omega, by omega⟩, .ref f.bk, rfl, f.bk, CB, dk, _, .int (numAt xs 7), rfl, hk, TB.cl, TB.n_wait, k7, .int left, rfl, _, _, rfl, rfl, .inl ⟨by omega, by omega⟩, _, _, rfl, rfl, ?_⟩
    refine ⟨fun σ' H' => σ' = [some (.ref p), some (.ref s0), some (.int left), some (.bl wd), some (.ref f.bk), some (.int fr0), some (.int (fr0 * fr0 + numAt xs 7 * left + (if keepM bs d = true then numAt xs 4 else 0)))] ∧ H' = H, ?_, ?_⟩
    · refine ⟨.ref p, rfl, p, dx, _, rfl, hp, rfl, .ref s0, rfl, p, s0, f, bs, kvs, d, us, pl, fi, rfl, sA, hst, hdl, _, rfl, ite2 (fun h => ?_) (fun h => ?_)⟩
      · refine ⟨.int _, rfl, .ref f.bk, rfl, f.bk, CB, dk, _, .int (numAt xs 4), rfl, hk, TB.cl, TB.n_keep, k4, _, _, rfl, rfl, ?_, rfl⟩
        rw [if_pos h]; rfl
      · refine ⟨?_, rfl⟩
        rw [if_neg h, Int.add_zero]; rfl
    rintro σ' H' ⟨rfl, rfl⟩
    generalize fr0 * fr0 + numAt xs 7 * left + (if keepM bs d = true then numAt xs 4 else 0) = c1 at q ⊢
    refine ⟨fun σ' H2 => σ' = [some (.ref p), some (.ref s0), some (.int left), some (.bl wd), some (.ref f.bk), some (.int fr0), some (.int (c1 + (if fi = true then numAt xs 5 else 0)))] ∧ H2 = H', ?_, ?_⟩
    · refine ⟨.ref s0, rfl, s0, _, 3, .bl fi, rfl, rfl, SqT.of hst, rfl, fi, rfl, ite2 (fun h => ?_) (fun h => ?_)⟩
      · refine ⟨.int _, rfl, .ref f.bk, rfl, f.bk, CB, dk, _, .int (numAt xs 5), rfl, hk, TB.cl, TB.n_orphan, k5, _, _, rfl, rfl, ?_, rfl⟩
        rw [if_pos h]; rfl
      · refine ⟨?_, rfl⟩
        rw [if_neg h, Int.add_zero]
    rintro σ' H2' ⟨rfl, rfl⟩
    generalize c1 + (if fi = true then numAt xs 5 else 0) = c2 at q ⊢
    refine ⟨.bl wd, rfl, wd, rfl, ite2 (fun h => ?_) (fun h => ?_)⟩
    · rw [if_pos h] at q
      exact ⟨.int _, rfl, .ref f.bk, rfl, f.bk, CB, dk, _, .int (numAt xs 6), rfl, hk, TB.cl, TB.n_widow, k6, _, _, rfl, rfl, .int _, rfl, q⟩
    · rw [if_neg h, Int.add_zero] at q
      exact ⟨.int _, rfl, q⟩
end
end K37

set_option maxRecDepth 100000
set_option maxHeartbeats 8000000
namespace K37
open PySem PySem.Spec PyProof.Rows L2
/-! ### moves -/
structure Mo where
  en : Nat
  fg : Option Nat
  co : Int
  us : Int
  pl : Nat
  bg : Bool
def fgV : Option Nat → V
  | none => .non
  | some j => .int (j : Int)
def MvT (H : Hp) (t : Addr) (m : Mo) : Prop := ∃ ti ts : Addr, H t = some (.tup [.ref ti, .int m.co, .ref ts]) ∧ H ti = some (.tup [.int (m.en : Int), fgV m.fg]) ∧ H ts = some (.tup [.int (m.en : Int), .int m.us, .int (m.pl : Int), .bl m.bg])
theorem MvT.kp {H H' : Hp} {t : Addr} {m : Mo} (h : MvT H t m) (s : Kp H H') : MvT H' t m := let ⟨ti, ts, a, b, c⟩ := h; ⟨ti, ts, s.tup a, s.tup b, s.tup c⟩
def MsT (H : Hp) (ts : List Addr) (ms : List Mo) : Prop := ts.length = ms.length ∧ ∀ (i : Nat) (t : Addr) (m : Mo), ts[i]? = some t → ms[i]? = some m → MvT H t m
theorem MsT.kp {H H' : Hp} {ts : List Addr} {ms : List Mo} (h : MsT H ts ms) (s : Kp H H') : MsT H' ts ms := ⟨h.1, fun i t m a b => (h.2 i t m a b).kp s⟩
theorem MsT.nil (H : Hp) : MsT H [] [] := ⟨rfl, fun i t m h => nomatch h⟩
theorem MsT.app {H : Hp} {ts us : List Addr} {ms ns : List Mo} (h : MsT H ts ms) (g : MsT H us ns) : MsT H (ts ++ us) (ms ++ ns) := by
  refine ⟨by rw [List.length_append, List.length_append, h.1, g.1], fun i t m a b => ?_⟩
  by_cases hi : i < ts.length
  · rw [List.getElem?_append_left hi] at a
    rw [List.getElem?_append_left (by rw [← h.1]; exact hi)] at b
    exact h.2 i t m a b
  · rw [List.getElem?_append_right (by omega)] at a
    rw [List.getElem?_append_right (by rw [← h.1]; omega), ← h.1] at b
    exact g.2 _ t m a b
theorem MsT.one {H : Hp} {t : Addr} {m : Mo} (h : MvT H t m) : MsT H [t] [m] := ⟨rfl, fun i t' m' a b => by
  cases i with
  | zero => cases a; cases b; exact h
  | succ i => nomatch a⟩
def rv (ts : List Addr) : List V := ts.map V.ref
theorem rv_app (a b : List Addr) : rv a ++ rv b = rv (a ++ b) := by unfold rv; rw [List.map_append]
theorem rv_len (a : List Addr) : (rv a).length = a.length := by unfold rv; rw [List.length_map]
def calN (bs : List Bk) (j : Nat) : Nat := (figs ((pcs bs).take j)).length
def topM (hs : List Int) (pl j : Nat) : Int := ((hs.drop pl).take j).sum
theorem topM_succ {hs : List Int} {pl j : Nat} {v : Int} (h : hs[pl + j]? = some v) : topM hs pl (j + 1) = topM hs pl j + v := by
  unfold topM
  rw [List.take_add_one, List.getElem?_drop, h, List.sum_append]; simp
theorem topM_mono {hs : List Int} (h : ∀ c ∈ hs, 0 ≤ c) (pl i j : Nat) (hij : i ≤ j) : topM hs pl i ≤ topM hs pl j := by
  unfold topM
  have e : (hs.drop pl).take j = (hs.drop pl).take i ++ ((hs.drop pl).drop i).take (j - i) := by
    rw [show j = i + (j - i) by omega]
    rw [List.take_add, show i + (j - i) - i = j - i by omega]
  rw [e, List.sum_append]
  have := sum_nn (fun x : Int => x) (l := ((hs.drop pl).drop i).take (j - i)) fun x hx => h x (List.mem_of_mem_drop (List.mem_of_mem_drop (List.mem_of_mem_take hx)))
  rw [List.map_id'] at this
  omega
def okF (xs : List V) (hs : List Int) (pl : Nat) (ne : Int) (j : Nat) : Bool := decide (j = 0) || decide (topM hs pl j + ne ≤ numAt xs 1)
def figM (xs : List V) (hs : List Int) (pl : Nat) (ne : Int) (n : Nat) : List Nat := (List.range n).filter (okF xs hs pl ne)
theorem figM_succ (xs : List V) (hs : List Int) (pl : Nat) (ne : Int) (n : Nat) : figM xs hs pl ne (n + 1) = figM xs hs pl ne n ++ if okF xs hs pl ne n = true then [n] else [] := by
  unfold figM
  rw [List.range_succ, List.filter_append]
  congr 1
  rw [List.filter_cons]
  split <;> rfl
theorem figM_stop {xs : List V} {hs : List Int} {pl : Nat} {ne : Int} {i : Nat} : ∀ {n : Nat}, i ≤ n → (∀ j, i ≤ j → j < n → okF xs hs pl ne j = false) → figM xs hs pl ne n = figM xs hs pl ne i
  | 0, h, _ => by rw [Nat.le_zero.mp h]
  | n + 1, h, hf => by
    by_cases e : i = n + 1
    · rw [e]
    · rw [figM_succ, hf n (by omega) (by omega), if_neg (by decide), List.append_nil]
      exact figM_stop (by omega) fun j h1 h2 => hf j h1 (by omega)
def priceJ (xs : List V) (bs : List Bk) (d : Nat) (us : Int) (pl : Nat) (fi : Bool) (x : Ln) (j : Nat) : Int := x.co + if 0 < d then openM xs bs d us (((calN bs d - pl : Nat) : Int) - (j : Int)) fi (x.ls && !x.fs) else 0
def moN (us : Int) (pl : Nat) (x : Ln) : Mo := ⟨x.en, none, x.co, us + x.ne, pl, x.fs && !x.ls⟩
def moJ (xs : List V) (bs : List Bk) (d : Nat) (us : Int) (pl : Nat) (fi : Bool) (x : Ln) (j : Nat) : Mo := ⟨x.en, some j, priceJ xs bs d us pl fi x j, topM (figs (pcs bs)) pl j + x.ne, pl + j, x.fs && !x.ls⟩
def preM (xs : List V) (d : Nat) (us : Int) (pl : Nat) (x : Ln) : List Mo := if 0 < d ∧ us + x.ne ≤ numAt xs 1 then [moN us pl x] else []
def withM (xs : List V) (bs : List Bk) (d : Nat) (us : Int) (pl : Nat) (fi : Bool) (x : Ln) (n : Nat) : List Mo := preM xs d us pl x ++ (figM xs (figs (pcs bs)) pl x.ne n).map (moJ xs bs d us pl fi x)
theorem figs_take_le (bs : List Bk) (j : Nat) : calN bs j ≤ (figs (pcs bs)).length := by
  unfold calN
  have e : figs (pcs bs) = figs ((pcs bs).take j) ++ figs ((pcs bs).drop j) := by rw [← figs_app, List.take_append_drop]
  have := congrArg List.length e
  rw [List.length_append] at this; omega
section
variable {P : Program} {w : World} {K : PySem.W.Frag} {mg : Str → Option Value} {base : Heap} {t3 t4 : Tok} {C CS CN CB FT fi fl fb pp gp pf gf : Addr} {mc u : Value} {di dl db dp df : FuncData}
def spMw (CS CB : Addr) : Sp := fun vs H Q _ => ∃ (p s0 : Addr) (f : F7) (bs : List Bk) (kvs : List (Key × V)) (xs : List V) (d : Nat) (us : Int) (pl : Nat) (fi : Bool) (x : Ln), vs = [.ref p, .ref s0, .ref x.t] ∧ StA CS H p f bs kvs ∧ Bo.BookA CB H f.bk xs ∧ Bo.Good xs ∧ StT H s0 d us pl fi ∧ LnT H x ∧ d ≤ (pcs bs).length ∧ 0 ≤ us ∧ pl ≤ calN bs d ∧ (figs (pcs bs)).length ≤ 200 ∧ (∀ c ∈ figs (pcs bs), 0 ≤ c) ∧
  ∀ H' r ts, Same H H' → H r = none → H' r = some (.lst (rv ts)) → MsT H' ts (withM xs bs d us pl fi x (calN bs d - pl + 1)) → Q (.ref r) H'
abbrev pMw : List Str := ["self", "state", "line"]
abbrev nMw : List Str := ["self", "state", "line", "done", "used", "placed", "_", "end", "cost", "need", "is_first", "is_last", "begun", "found", "waiting", "top", "figures", "price"]
theorem scMw : FnScope nMw pMw (defScope sSWith) := ⟨rfl, rfl, rfl, by decide +kernel, rfl, by decide +kernel, by decide +kernel⟩
theorem ok_mw {f f_opening_cost : Addr} {fd fd_opening_cost : FuncData} (B : Blt mg) (TB : Bo.Bok K mg CB FT mc u) (TS : Stp K mg CS) (F : Fun K "_moves_with" "Steps._moves_with" sSWith f fd)
    (F_opening_cost : Fun K "_opening_cost" "Steps._opening_cost" sSOpen f_opening_cost fd_opening_cost) (b_opening_cost : Binds K fd_opening_cost pOp []) (m_opening_cost : Meth K CS "_opening_cost" f_opening_cost) (G_opening_cost : FnOk P w K mg base CX0 2 f_opening_cost fd_opening_cost pOp (spOp CS CB)) : FnOk P w K mg base CX0 3 f fd pMw (spMw CS CB) := by
  refine F.ok scMw (fun vs H Q E h => ?_) (fun cdv A0 outer s H vs Q E hr h => ?_)
  · obtain ⟨p, s0, f, bs, kvs, xs, d, us, pl, fi, x, rfl, _⟩ := h; rfl
  · obtain ⟨p, s0, f, bs, kvs, xs, d, us, pl, fi, x, rfl, sA, hB, gx, hst, hx, hdl, hus, hpl, hfl, hnn, q⟩ := h
    obtain ⟨dx, os, hp, hBl, hA, hO, hT, hh, hc, hl, hb⟩ := id sA
    obtain ⟨dk, w0, hk, hw⟩ := id hB
    obtain ⟨k1, k4, k5, k6, k7⟩ := lk_more gx w0
    have hcl := figs_take_le bs d
    refine ⟨_, (pss_cons (ps_asg (pv 1) (pg_tup rfl (pgs_cons (pg_name (i := 3) scMw.nd rfl (.inl rfl)) (pgs_cons (pg_name (i := 4) scMw.nd rfl (.inl rfl)) (pgs_cons (pg_name (i := 5) scMw.nd rfl (.inl rfl)) (pgs_cons (pg_name (i := 6) scMw.nd rfl (.inl rfl)) pgs_nil))))))
      (pss_cons (ps_asg (pv 2) (pg_tup rfl (pgs_cons (pg_name (i := 7) scMw.nd rfl (.inl rfl)) (pgs_cons (pg_name (i := 6) scMw.nd rfl (.inl rfl)) (pgs_cons (pg_name (i := 8) scMw.nd rfl (.inl rfl)) (pgs_cons (pg_name (i := 9) scMw.nd rfl (.inl rfl)) (pgs_cons (pg_name (i := 10) scMw.nd rfl (.inl rfl)) (pgs_cons (pg_name (i := 11) scMw.nd rfl (.inl rfl)) pgs_nil))))))))
      (Evl.pss_cut (ps_set (i := 12) scMw.nd rfl (.inl rfl) (pe_and (pv 10) (pe_one (pe_not (pv 11)))))
      (pss_cons (ps_set (i := 13) scMw.nd rfl (.inl rfl) (pe_lst pa_nil))
      (Evl.pss_cut (ps_if (PW.pt (pw_and (pt_cmpR op_gt (pv 3) pe_int (nomark _)) (pw_and1 (pt_cmpR op_le (pe_op op_add (pv 4) (pv 9)) (pe_fld (pe_fld (pv 0) rfl) rfl) (nomark _)))))
      (pss_one (ps_expr (pe_bm PySem.F.plainAttrs_list PySem.F.slot_list_append PySem.F.type_list_append mt_append (pv 13) (pa_cons (pe_tup (pa_cons (pe_tup (pa_cons (pv 7) (pa_cons pe_non pa_nil))) (pa_cons (pv 8) (pa_cons (pe_tup (pa_cons (pv 7) (pa_cons (pe_op op_add (pv 4) (pv 9)) (pa_cons (pv 5) (pa_cons (pv 12) pa_nil))))) pa_nil)))) pa_nil))))
      pss_nil)
      (pss_cons (ps_set (i := 14) scMw.nd rfl (.inl rfl) (pe_op op_sub (pe_ix ix_list (pe_fld (pv 0) rfl) (pv 3) (fun _ _ => rfl)) (pv 5)))
      (pss_cons (ps_set (i := 15) scMw.nd rfl (.inl rfl) pe_int)
      (pss_cons (ps_for (PassesOwn.never) rfl (pi_range1 (by rfl) B.range (pa_cons (pe_op op_add (pv 14) pe_int) pa_nil)) (pg_name (i := 16) scMw.nd rfl (.inl rfl))
      (Evl.pss_cut (ps_if (pt_cmpR op_gt (pv 16) pe_int (nomark _))
       (pss_cons (ps_aug (i := 15) scMw.nd rfl (.inl rfl) (pe_ix ix_list (pe_fld (pv 0) rfl) (pe_op op_sub (pe_op op_add (pv 5) (pv 16)) pe_int) (fun _ _ => rfl)) ip_add)
        (pss_one (ps_if (pt_cmpR op_gt (pe_op op_add (pv 15) (pv 9)) (pe_fld (pe_fld (pv 0) rfl) rfl) (nomark _))
        (pss_one ps_break)
        pss_nil)))
       pss_nil)
       (pss_cons (ps_set (i := 17) scMw.nd rfl (.inl rfl) (pv 8))
       (Evl.pss_cut (ps_if (pt_cmpR op_gt (pv 3) pe_int (nomark _))
       (pss_one (ps_aug (i := 17) scMw.nd rfl (.inl rfl) (pe_meth (pv 0) TS.cl m_opening_cost G_opening_cost hr b_opening_cost .nil pass0 (pa_cons (pv 1) (pa_cons (pe_op op_sub (pv 14) (pv 16)) (pa_cons (pe_and (pv 11) (pe_one (pe_not (pv 10)))) pa_nil)))) ip_add))
       pss_nil)
       (pss_one (ps_expr (pe_bm PySem.F.plainAttrs_list PySem.F.slot_list_append PySem.F.type_list_append mt_append (pv 13) (pa_cons (pe_tup (pa_cons (pe_tup (pa_cons (pv 7) (pa_cons (pv 16) pa_nil))) (pa_cons (pv 17) (pa_cons (pe_tup (pa_cons (pv 7) (pa_cons (pe_op op_add (pv 15) (pv 9)) (pa_cons (pe_op op_add (pv 5) (pv 16)) (pa_cons (pv 12) pa_nil))))) pa_nil)))) pa_nil))))))))
      (pss_one (ps_ret (pv 13))))))))))), ?_⟩
    refine ⟨.ref s0, rfl, s0, _, rfl, SqT.of hst, rfl, _, _, rfl, _, _, rfl, _, _, rfl, _, _, rfl, rfl, ?_⟩
    refine ⟨.ref x.t, rfl, x.t, _, rfl, SqT.of hx, rfl, _, _, rfl, _, _, rfl, _, _, rfl, _, _, rfl, _, _, rfl, _, _, rfl, rfl, ?_⟩
    refine ⟨fun σ' H' => σ' = [some (.ref p), some (.ref s0), some (.ref x.t), some (.int (d : Int)), some (.int us), some (.int (pl : Int)), some (.int x.wh), some (.int (x.en : Int)), some (.int x.co), some (.int x.ne), some (.bl x.fs), some (.bl x.ls), some (.bl (x.fs && !x.ls)), none, none, none, none, none] ∧ H' = H, ?_, ?_⟩
    · refine ⟨.bl x.fs, rfl, x.fs, rfl, ite2 (fun h => ?_) (fun h => ?_)⟩
      · refine ⟨.bl x.ls, rfl, x.ls, rfl, ?_, rfl⟩
        rw [h]; rfl
      · refine ⟨?_, rfl⟩
        rw [Bool.eq_false_iff.mpr h]; rfl
    rintro σ' H0 ⟨rfl, rfl⟩
    refine ⟨Nat.zero_le _, fun R nR => ?_⟩
    have s0' := same_new nR (o := .lst [])
    have hR : (upd H0 R (.lst [])) R = some (.lst (rv [])) := upd_same
    generalize upd H0 R (.lst []) = H1 at s0' hR ⊢
    refine ⟨fun σ' H' => ∃ ts, σ' = [some (.ref p), some (.ref s0), some (.ref x.t), some (.int (d : Int)), some (.int us), some (.int (pl : Int)), some (.int x.wh), some (.int (x.en : Int)), some (.int x.co), some (.int x.ne), some (.bl x.fs), some (.bl x.ls), some (.bl (x.fs && !x.ls)), some (.ref R), none, none, none, none] ∧ Same H0 H' ∧ H' R = some (.lst (rv ts)) ∧ MsT H' ts (preM xs d us pl x), ?_, ?_⟩
    · refine ⟨.int (d : Int), rfl, _, _, rfl, rfl, _, rfl, ite2 (fun h1 => ?_) (fun h1 => ?_)⟩
      · have h1 : 0 < d := by have := of_decide_eq_true h1; omega
        refine ⟨.int us, rfl, .int x.ne, rfl, _, _, rfl, rfl, .ref p, rfl, p, CS, dx, _, .ref f.bk, rfl, (s0' _ _ hp), TS.cl, TS.n_book, rfl, f.bk, CB, dk, _, .int (numAt xs 1), rfl, (s0' _ _ hk), TB.cl, TB.n_height, k1, _, _, rfl, rfl, _, rfl, ite2 (fun h2 => ?_) (fun h2 => ?_)⟩
        · have h2 := of_decide_eq_true h2
          refine ⟨.ref R, rfl, .inl ⟨rfl, _, SqL.of hR⟩, .int (x.en : Int), rfl, by show 2 ≤ sizeLine; decide, fun ti nti => ?_⟩
          have s2 := same_new nti (o := .tup [.int (x.en : Int), .non])
          have hti : (upd H1 ti (.tup [.int (x.en : Int), .non])) ti = some (.tup [.int (x.en : Int), .non]) := upd_same
          generalize upd H1 ti (.tup [.int (x.en : Int), .non]) = H2 at s2 hti ⊢
          refine ⟨.int x.co, rfl, .int (x.en : Int), rfl, .int us, rfl, .int x.ne, rfl, _, _, rfl, rfl, .int (pl : Int), rfl, .bl _, rfl, by show 4 ≤ sizeLine; decide, fun tu ntu => ?_⟩
          have s3 := same_new ntu (o := .tup [.int (x.en : Int), .int (us + x.ne), .int (pl : Int), .bl (x.fs && !x.ls)])
          have htu : (upd H2 tu (.tup [.int (x.en : Int), .int (us + x.ne), .int (pl : Int), .bl (x.fs && !x.ls)])) tu = some (.tup [.int (x.en : Int), .int (us + x.ne), .int (pl : Int), .bl (x.fs && !x.ls)]) := upd_same
          generalize upd H2 tu (.tup [.int (x.en : Int), .int (us + x.ne), .int (pl : Int), .bl (x.fs && !x.ls)]) = H3 at s3 htu ⊢
          refine ⟨by show 3 ≤ sizeLine; decide, fun t nt => ?_⟩
          have s4 := same_new nt (o := .tup [.ref ti, .int x.co, .ref tu])
          have ht : (upd H3 t (.tup [.ref ti, .int x.co, .ref tu])) t = some (.tup [.ref ti, .int x.co, .ref tu]) := upd_same
          generalize upd H3 t (.tup [.ref ti, .int x.co, .ref tu]) = H4 at s4 ht ⊢
          have hR4 := s4 _ _ (s3 _ _ (s2 _ _ hR))
          have kp : Kp H4 (upd H4 R (.lst (rv [] ++ [.ref t]))) := Kp.but hR4 (fun z => z) upd_but
          refine ⟨R, _, .ref t, rfl, rfl, hR4, by show 0 < sizeLine; decide, [t], rfl, same_at (s0'.trans (s2.trans (s3.trans s4))) nR, upd_same, ?_⟩
          unfold preM
          rw [if_pos ⟨h1, h2⟩]
          exact MsT.one (MvT.kp (H := H4) ⟨ti, tu, ht, s4 _ _ (s3 _ _ hti), s4 _ _ htu⟩ kp)
        · refine ⟨[], rfl, s0', hR, ?_⟩
          unfold preM
          rw [if_neg (fun z => h2 (decide_eq_true z.2))]; exact MsT.nil _
      · refine ⟨[], rfl, s0', hR, ?_⟩
        unfold preM
        rw [if_neg (fun z => h1 (decide_eq_true (by omega)))]; exact MsT.nil _
    rintro σ' H2 ⟨ts0, rfl, s2, hR2, hms0⟩
    have hpre : (preM xs d us pl x).length ≤ 1 := by unfold preM; split <;> simp
    have at_c : atI (calV (pcs bs) ((pcs bs).length + 1)) (d : Int) = some (.int ((calN bs d : Nat) : Int)) := atI_nat (calV_at _ (by omega))
    refine ⟨.ref p, rfl, p, CS, dx, _, .ref f.c, rfl, (s2 _ _ hp), TS.cl, TS.n_called, rfl, .int (d : Int), rfl, f.c, _, _, _, rfl, rfl, SqL.of (s2 _ _ hc), at_c, .int (pl : Int), rfl, _, _, rfl, rfl, ?_⟩
    have ew : ((calN bs d : Nat) : Int) - (pl : Int) = ((calN bs d - pl : Nat) : Int) := by omega
    show gName 14 (V.int (((calN bs d : Nat) : Int) - (pl : Int))) _ _ _
    rw [ew]
    obtain ⟨wt, hwt⟩ : ∃ n, n = calN bs d - pl := ⟨_, rfl⟩
    rw [← hwt] at q ⊢
    refine ⟨.int (wt : Int), rfl, _, _, rfl, rfl, (wt : Int) + 1, rfl, by omega, by omega, ?_⟩
    have eN : ((wt : Int) + 1).toNat = wt + 1 := by omega
    rw [eN]
    have fin : ∀ (H3 : Hp) (ts : List Addr) (i : Nat), Same H0 H3 → H3 R = some (.lst (rv ts)) → MsT H3 ts (withM xs bs d us pl fi x i) → figM xs (figs (pcs bs)) pl x.ne (wt + 1) = figM xs (figs (pcs bs)) pl x.ne i → Q (.ref R) H3 := fun H3 ts i a1 a2 a3 a4 => q H3 R ts a1 nR a2 (by unfold withM; rw [a4]; exact a3)
    refine for_range (lo := 0) (n := wt + 1) (fun j σ H' => ∃ (y16 y17 : Option V) (ts : List Addr), σ = [some (.ref p), some (.ref s0), some (.ref x.t), some (.int (d : Int)), some (.int us), some (.int (pl : Int)), some (.int x.wh), some (.int (x.en : Int)), some (.int x.co), some (.int x.ne), some (.bl x.fs), some (.bl x.ls), some (.bl (x.fs && !x.ls)), some (.ref R), some (.int (wt : Int)), some (.int (topM (figs (pcs bs)) pl (j - 1))), y16, y17] ∧ Same H0 H' ∧ H' R = some (.lst (rv ts)) ∧ MsT H' ts (withM xs bs d us pl fi x j)) ⟨none, none, ts0, rfl, s2, hR2, by unfold withM; show MsT _ _ (_ ++ []); rw [List.append_nil]; exact hms0⟩ ?_ ?_
    · rintro j σ H3 hj ⟨y16, y17, ts, rfl, s3, hR3, hms⟩
      have e0 : (0 : Int) + (j : Int) = (j : Int) := by omega
      rw [e0]
      have hp3 := s3 _ _ hp
      have hk3 := s3 _ _ hk
      have stop : ¬ (j = 0) → topM (figs (pcs bs)) pl j + x.ne > numAt xs 1 → figM xs (figs (pcs bs)) pl x.ne (wt + 1) = figM xs (figs (pcs bs)) pl x.ne j := fun h1 h2 => figM_stop (by omega) fun i a1 a2 => by
        have := topM_mono hnn pl j i a1
        unfold okF
        rw [decide_eq_false (by omega), Bool.false_or]
        exact decide_eq_false (by omega)
      refine ⟨fun σ' H' => σ' = [some (.ref p), some (.ref s0), some (.ref x.t), some (.int (d : Int)), some (.int us), some (.int (pl : Int)), some (.int x.wh), some (.int (x.en : Int)), some (.int x.co), some (.int x.ne), some (.bl x.fs), some (.bl x.ls), some (.bl (x.fs && !x.ls)), some (.ref R), some (.int (wt : Int)), some (.int (topM (figs (pcs bs)) pl j)), some (.int (j : Int)), y17] ∧ H' = H3 ∧ okF xs (figs (pcs bs)) pl x.ne j = true, ?_, ?_⟩
      · refine ⟨.int (j : Int), rfl, _, _, rfl, rfl, _, rfl, ite2 (fun h => ?_) (fun h => ?_)⟩
        · have hj0 : 0 < j := by have := of_decide_eq_true h; omega
          obtain ⟨i, rfl⟩ : ∃ i, j = i + 1 := ⟨j - 1, by omega⟩
          have hlt : pl + i < (figs (pcs bs)).length := by omega
          obtain ⟨v, ev⟩ : ∃ v, (figs (pcs bs))[pl + i]? = some v := ⟨_, List.getElem?_eq_getElem hlt⟩
          have et := topM_succ ev
          have ee : (pl : Int) + ((i + 1 : Nat) : Int) - 1 = ((pl + i : Nat) : Int) := by omega
          have at_h : atI ((figs (pcs bs)).map V.int) ((pl : Int) + ((i + 1 : Nat) : Int) - 1) = some (.int v) := by rw [ee]; exact atI_nat (by rw [List.getElem?_map, ev]; rfl)
          refine ⟨.int _, rfl, .ref p, rfl, p, CS, dx, _, .ref f.h, rfl, hp3, TS.cl, TS.n_heights, rfl, .int (pl : Int), rfl, .int _, rfl, _, _, rfl, rfl, _, _, rfl, rfl, f.h, _, _, .int v, rfl, rfl, SqL.of (s3 _ _ hh), at_h, _, _, rfl, rfl, ?_⟩
          refine ⟨.int _, rfl, .int x.ne, rfl, _, _, rfl, rfl, .ref p, rfl, p, CS, dx, _, .ref f.bk, rfl, hp3, TS.cl, TS.n_book, rfl, f.bk, CB, dk, _, .int (numAt xs 1), rfl, hk3, TB.cl, TB.n_height, k1, _, _, rfl, rfl, _, rfl, ite2 (fun h2 => ?_) (fun h2 => ?_)⟩
          · have h2 : topM (figs (pcs bs)) pl i + v + x.ne > numAt xs 1 := of_decide_eq_true h2
            exact ⟨.ref R, rfl, fin _ ts _ s3 hR3 hms (stop (by omega) (by rw [et]; exact h2))⟩
          · have h2 : ¬ topM (figs (pcs bs)) pl i + v + x.ne > numAt xs 1 := fun z => h2 (decide_eq_true z)
            refine ⟨?_, rfl, ?_⟩
            · rw [et]; rfl
            · unfold okF
              rw [et, decide_eq_true (by omega : topM (figs (pcs bs)) pl i + v + x.ne ≤ numAt xs 1), Bool.or_true]
        · have hj0 : j = 0 := by
            refine Decidable.byContradiction fun z => h (decide_eq_true (by omega))
          subst hj0
          exact ⟨rfl, rfl, rfl⟩
      rintro σ' H4 ⟨rfl, rfl, hok⟩
      refine ⟨.int x.co, rfl, ?_⟩
      refine ⟨fun σ' H' => σ' = [some (.ref p), some (.ref s0), some (.ref x.t), some (.int (d : Int)), some (.int us), some (.int (pl : Int)), some (.int x.wh), some (.int (x.en : Int)), some (.int x.co), some (.int x.ne), some (.bl x.fs), some (.bl x.ls), some (.bl (x.fs && !x.ls)), some (.ref R), some (.int (wt : Int)), some (.int (topM (figs (pcs bs)) pl j)), some (.int (j : Int)), some (.int (priceJ xs bs d us pl fi x j))] ∧ H' = H4, ?_, ?_⟩
      · unfold priceJ
        rw [← hwt]
        refine ⟨.int (d : Int), rfl, _, _, rfl, rfl, _, rfl, ite2 (fun h => ?_) (fun h => ?_)⟩
        · have hd : 0 < d := by have := of_decide_eq_true h; omega
          rw [if_pos hd]
          refine ⟨.int x.co, rfl, .ref p, rfl, p, dx, _, rfl, hp3, rfl, .ref s0, rfl, .int (wt : Int), rfl, .int (j : Int), rfl, _, _, rfl, rfl, .bl x.ls, rfl, x.ls, rfl, ite2 (fun hl1 => ?_) (fun hl1 => ?_)⟩
          · refine ⟨.bl x.fs, rfl, x.fs, rfl, p, s0, f, bs, kvs, xs, d, us, pl, fi, _, _, rfl, sA.same s3, hB.same s3, gx, s3 _ _ hst, hdl, hus, _, _, rfl, rfl, ?_, rfl⟩
            rw [hl1]; rfl
          · refine ⟨p, s0, f, bs, kvs, xs, d, us, pl, fi, _, false, rfl, sA.same s3, hB.same s3, gx, s3 _ _ hst, hdl, hus, _, _, rfl, rfl, ?_, rfl⟩
            rw [Bool.eq_false_iff.mpr hl1]; rfl
        · have hd : ¬ 0 < d := fun z => h (decide_eq_true (by omega))
          refine ⟨?_, rfl⟩
          rw [if_neg hd, Int.add_zero]; rfl
      rintro σ' H5 ⟨rfl, rfl⟩
      generalize hpr : priceJ xs bs d us pl fi x j = pr
      refine ⟨.ref R, rfl, .inl ⟨rfl, _, SqL.of hR3⟩, .int (x.en : Int), rfl, .int (j : Int), rfl, by show 2 ≤ sizeLine; decide, fun ti nti => ?_⟩
      have s6 := same_new nti (o := .tup [.int (x.en : Int), .int (j : Int)])
      have hti : (upd H5 ti (.tup [.int (x.en : Int), .int (j : Int)])) ti = some (.tup [.int (x.en : Int), .int (j : Int)]) := upd_same
      generalize upd H5 ti (.tup [.int (x.en : Int), .int (j : Int)]) = H6 at s6 hti ⊢
      have epl : (pl : Int) + (j : Int) = ((pl + j : Nat) : Int) := by omega
      refine ⟨.int pr, rfl, .int (x.en : Int), rfl, .int _, rfl, .int x.ne, rfl, _, _, rfl, rfl, .int (pl : Int), rfl, .int (j : Int), rfl, _, _, rfl, rfl, .bl _, rfl, by show 4 ≤ sizeLine; decide, fun tu ntu => ?_⟩
      have s7 := same_new ntu (o := .tup [.int (x.en : Int), .int (topM (figs (pcs bs)) pl j + x.ne), .int ((pl : Int) + (j : Int)), .bl (x.fs && !x.ls)])
      have htu : (upd H6 tu (.tup [.int (x.en : Int), .int (topM (figs (pcs bs)) pl j + x.ne), .int ((pl : Int) + (j : Int)), .bl (x.fs && !x.ls)])) tu = some (.tup [.int (x.en : Int), .int (topM (figs (pcs bs)) pl j + x.ne), .int ((pl + j : Nat) : Int), .bl (x.fs && !x.ls)]) := by rw [upd_same, epl]
      generalize upd H6 tu (.tup [.int (x.en : Int), .int (topM (figs (pcs bs)) pl j + x.ne), .int ((pl : Int) + (j : Int)), .bl (x.fs && !x.ls)]) = H7 at s7 htu ⊢
      refine ⟨by show 3 ≤ sizeLine; decide, fun t nt => ?_⟩
      have s8 := same_new nt (o := .tup [.ref ti, .int pr, .ref tu])
      have ht : (upd H7 t (.tup [.ref ti, .int pr, .ref tu])) t = some (.tup [.ref ti, .int pr, .ref tu]) := upd_same
      generalize upd H7 t (.tup [.ref ti, .int pr, .ref tu]) = H8 at s8 ht ⊢
      have s58 := s6.trans (s7.trans s8)
      have hR8 := s58 _ _ hR3
      have kp : Kp H8 (upd H8 R (.lst (rv ts ++ [.ref t]))) := Kp.but hR8 (fun z => z) upd_but
      have hlen : ts.length ≤ 1 + j := by
        rw [hms.1]; unfold withM
        rw [List.length_append, List.length_map]
        have : (figM xs (figs (pcs bs)) pl x.ne j).length ≤ j := by unfold figM; exact Nat.le_trans (List.length_filter_le _ _) (by rw [List.length_range]; exact Nat.le_refl _)
        omega
      refine ⟨R, _, .ref t, rfl, rfl, hR8, (by rw [rv_len]; exact small1000 (by omega)), _, _, ts ++ [t], rfl, same_at (s3.trans s58) nR, by rw [upd_same]; exact congrArg (fun z => some (HO.lst z)) (rv_app ts [t]), ?_⟩
      unfold withM
      rw [figM_succ, if_pos hok, List.map_append, ← List.append_assoc]
      refine ((hms.kp (Kp.of s58)).kp kp).app (MsT.one (MvT.kp (H := H8) ⟨ti, tu, ?_, s8 _ _ (s7 _ _ hti), s8 _ _ htu⟩ kp))
      show H8 t = some (.tup [.ref ti, .int (priceJ xs bs d us pl fi x j), .ref tu])
      rw [hpr]; exact ht
    · rintro σ H3 ⟨y16, y17, ts, rfl, s3, hR3, hms⟩
      exact ⟨.ref R, rfl, fin H3 ts _ s3 hR3 hms rfl⟩
end
end K37

set_option maxRecDepth 100000
set_option maxHeartbeats 8000000
namespace K37
open PySem PySem.Spec PyProof.Rows L2
def lnM (xs : List V) (bs : List Bk) (d s e : Nat) (b : Bk) (en : Nat) : Ln := ⟨0, en, natM (segM bs d en) (indM d s b), priceM (numAt xs 0) (numAt xs 3) (numAt xs 2) (natM (segM bs d en) (indM d s b)) (decide (e = en)) (hjM bs en), needM bs d en s b, decide (d = s), decide (e = en)⟩
theorem withM_ln {xs : List V} {bs : List Bk} {d s e : Nat} {b : Bk} {us : Int} {pl : Nat} {fi : Bool} {n : Nat} {x : Ln} (h : LnOk xs bs d s e b x) : withM xs bs d us pl fi x n = withM xs bs d us pl fi (lnM xs bs d s e b x.en) n := by
  obtain ⟨h1, h2, h3, h4, h5⟩ := h
  obtain ⟨t, en, wh, co, ne, fs, ls⟩ := x
  replace h1 : wh = natM (segM bs d en) (indM d s b) := h1
  replace h2 : co = priceM (numAt xs 0) (numAt xs 3) (numAt xs 2) (natM (segM bs d en) (indM d s b)) (decide (e = en)) (hjM bs en) := h2
  replace h3 : ne = needM bs d en s b := h3
  replace h4 : fs = decide (d = s) := h4
  replace h5 : ls = decide (e = en) := h5
  subst h1; subst h2; subst h3; subst h4; subst h5
  rfl
def movesM (xs : List V) (bs : List Bk) (d : Nat) (us : Int) (pl : Nat) (fi : Bool) : List Mo := match (spans 0 0 bs)[d]? with
  | some (k, s, e) => (match bs[k]? with
    | some b => (endsM (numAt xs 0) bs d s b (e - d)).flatMap fun en => withM xs bs d us pl fi (lnM xs bs d s e b en) (calN bs d - pl + 1)
    | none => [])
  | none => []
theorem movesM_at {xs : List V} {bs : List Bk} {d k s e : Nat} {b : Bk} {us : Int} {pl : Nat} {fi : Bool} (h1 : (spans 0 0 bs)[d]? = some (k, s, e)) (h2 : bs[k]? = some b) : movesM xs bs d us pl fi = (endsM (numAt xs 0) bs d s b (e - d)).flatMap fun en => withM xs bs d us pl fi (lnM xs bs d s e b en) (calN bs d - pl + 1) := by
  unfold movesM
  rw [h1]
  show (match bs[k]? with
    | some b => (endsM (numAt xs 0) bs d s b (e - d)).flatMap fun en => withM xs bs d us pl fi (lnM xs bs d s e b en) (calN bs d - pl + 1)
    | none => []) = _
  rw [h2]
theorem movesM_end {xs : List V} {bs : List Bk} {d : Nat} {us : Int} {pl : Nat} {fi : Bool} (h : (pcs bs).length ≤ d) : movesM xs bs d us pl fi = [] := by
  unfold movesM
  rw [List.getElem?_eq_none (by rw [spans_len]; exact h)]
theorem withM_len {xs : List V} {bs : List Bk} {d : Nat} {us : Int} {pl : Nat} {fi : Bool} {x : Ln} {n : Nat} : (withM xs bs d us pl fi x n).length ≤ 1 + n := by
  unfold withM
  rw [List.length_append, List.length_map]
  have h1 : (preM xs d us pl x).length ≤ 1 := by unfold preM; split <;> simp
  have h2 : (figM xs (figs (pcs bs)) pl x.ne n).length ≤ n := by unfold figM; exact Nat.le_trans (List.length_filter_le _ _) (by rw [List.length_range]; exact Nat.le_refl _)
  omega
theorem endsM_len (room : Int) (bs : List Bk) (st s : Nat) (b : Bk) (n : Nat) : (endsM room bs st s b n).length ≤ n := by
  unfold endsM
  exact Nat.le_trans (List.length_filter_le _ _) (by rw [List.length_range']; exact Nat.le_refl _)
section
variable {P : Program} {w : World} {K : PySem.W.Frag} {mg : Str → Option Value} {base : Heap} {t3 t4 : Tok} {C CS CN CB FT fi fl fb pp gp pf gf : Addr} {mc u : Value} {di dl db dp df : FuncData}
def spLf (CS CB : Addr) : Sp := fun vs H Q _ => ∃ (p : Addr) (f : F7) (bs : List Bk) (xs : List V) (st k s e : Nat) (b : Bk), vs = [.ref p, .int (st : Int)] ∧ StA CS H p f bs [] ∧ Bo.BookA CB H f.bk xs ∧ Bo.Good xs ∧ Small bs ∧ (∀ p ∈ pcs bs, NnOk p) ∧ (∀ b ∈ bs, 0 ≤ b.b) ∧ (spans 0 0 bs)[st]? = some (k, s, e) ∧ bs[k]? = some b ∧
  ∀ H' r ls, Bt f.l H H' → H r = none → H' r = some (.lst (lv ls)) → (∀ x ∈ ls, LnT H' x ∧ LnOk xs bs st s e b x) → ls.map (·.en) = endsM (numAt xs 0) bs st s b (e - st) → StA CS H' p f bs [(.inl (st : Int), .ref r)] → Q (.ref r) H'
theorem scLf : FnScope ["self", "start"] ["self", "start"] (defScope sSLines) := ⟨rfl, rfl, rfl, by decide +kernel, rfl, by decide +kernel, by decide +kernel⟩
theorem ok_lf {f f_found_lines : Addr} {fd fd_found_lines : FuncData} (B : Blt mg) (TS : Stp K mg CS) (F : Fun K "lines_from" "Steps.lines_from" sSLines f fd)
    (F_found_lines : Fun K "_found_lines" "Steps._found_lines" sSFound f_found_lines fd_found_lines) (b_found_lines : Binds K fd_found_lines ["self", "start"] []) (m_found_lines : Meth K CS "_found_lines" f_found_lines) (G_found_lines : FnOk P w K mg base CX0 3 f_found_lines fd_found_lines ["self", "start"] (spFo CS CB)) : FnOk P w K mg base CX0 4 f fd ["self", "start"] (spLf CS CB) := by
  refine F.ok scLf (fun vs H Q E h => ?_) (fun cdv A0 outer s H vs Q E hr h => ?_)
  · obtain ⟨p, f, bs, xs, st, k, s, e, b, rfl, _⟩ := h; rfl
  · obtain ⟨p, f, bs, xs, st, k, s, e, b, rfl, sA, hB, gx, hsm, hnn, hb0, hsp, hbk, q⟩ := h
    obtain ⟨dx, os, hp, hBl, hA, hO, hT, hh, hc, hl, hb⟩ := id sA
    refine ⟨_, (pss_cons (ps_if (pt_cmp (pc_dnotin (hu_of hr) (pv 1) (pe_fld (pv 0) rfl)))
      (pss_one (ps_dput (hu_of hr) (pe_fld (pv 0) rfl) (pv 1) (pe_meth (pv 0) TS.cl m_found_lines G_found_lines hr b_found_lines .nil pass0 (pa_cons (pv 1) pa_nil)) rfl))
      pss_nil)
      (pss_one (ps_ret (pe_dget (hu_of hr) (pe_fld (pv 0) rfl) (pv 1) (fun _ _ => rfl))))), ?_⟩
    refine ⟨.int (st : Int), rfl, .ref p, rfl, p, CS, dx, _, .ref f.l, rfl, hp, TS.cl, TS.n_lines, rfl, f.l, none, rfl, DGet.k (k := .inl (st : Int)) hl, _, rfl, iteT ?_⟩
    refine ⟨.ref p, rfl, p, dx, _, rfl, hp, rfl, .int (st : Int), rfl, p, f, bs, [], xs, st, k, s, e, b, rfl, sA, hB, gx, hsm, hnn, hsp, hbk, hb0 b (List.mem_of_getElem? hbk), fun H1 r ls s1 nr hr1 hls hle => ?_⟩
    have hl1 := s1 _ _ hl
    have hp1 := s1 _ _ hp
    refine ⟨.ref p, rfl, p, CS, dx, _, .ref f.l, rfl, hp1, TS.cl, TS.n_lines, rfl, .int (st : Int), rfl, f.l, _, rfl, DPut.k (k := .inl (st : Int)) hl1 (by show 0 < sizeLine; decide), ?_⟩
    have b2 : Bt f.l H1 (upd H1 f.l (.dK (putK [] (.inl (st : Int)) (.ref r)))) := upd_but
    have hl2 : (upd H1 f.l (.dK (putK [] (.inl (st : Int)) (.ref r)))) f.l = some (.dK [(.inl (st : Int), .ref r)]) := upd_same
    have kp : Kp H1 (upd H1 f.l (.dK (putK [] (.inl (st : Int)) (.ref r)))) := Kp.but hl1 (fun z => z) b2
    generalize upd H1 f.l (.dK (putK [] (.inl (st : Int)) (.ref r))) = H2 at b2 hl2 kp ⊢
    have ne : ∀ {a : Addr} {ys : List V}, H1 a = some (.lst ys) → a ≠ f.l := fun h => ne_of h hl1 (fun z => nomatch z)
    have np : p ≠ f.l := ne_of hp1 hl1 (fun z => nomatch z)
    have sA2 : StA CS H2 p f bs [(.inl (st : Int), .ref r)] := ⟨dx, os, b2 _ _ np hp1, b2 _ _ (ne (s1 _ _ hBl)) (s1 _ _ hBl), b2 _ _ (ne (s1 _ _ hA)) (s1 _ _ hA), b2 _ _ (ne (s1 _ _ hO)) (s1 _ _ hO), (hT.kp (Kp.of s1)).kp kp, b2 _ _ (ne (s1 _ _ hh)) (s1 _ _ hh), b2 _ _ (ne (s1 _ _ hc)) (s1 _ _ hc), hl2, (hb.kp (Kp.of s1)).kp kp⟩
    have g : DGet H2 f.l (kV (.inl (st : Int))) (some (.ref r)) := by
      have := DGet.k (k := .inl (st : Int)) hl2
      rwa [valV_pos rfl] at this
    exact ⟨.ref p, rfl, p, CS, dx, _, .ref f.l, rfl, (b2 _ _ np hp1), TS.cl, TS.n_lines, rfl, .int (st : Int), rfl, f.l, .ref r, rfl, g, q H2 r ls (fun b o n h => b2 _ _ n (s1 _ _ h)) nr (b2 _ _ (ne hr1) hr1) (fun x hx => ⟨kp.tup (hls x hx).1, (hls x hx).2⟩) hle sA2⟩
def spMo (CS CB : Addr) : Sp := fun vs H Q _ => ∃ (p s0 : Addr) (f : F7) (bs : List Bk) (xs : List V) (d : Nat) (us : Int) (pl : Nat) (fi : Bool), vs = [.ref p, .ref s0] ∧ StA CS H p f bs [] ∧ Bo.BookA CB H f.bk xs ∧ Bo.Good xs ∧ Small bs ∧ (∀ p ∈ pcs bs, NnOk p) ∧ (∀ b ∈ bs, 0 ≤ b.b) ∧ StT H s0 d us pl fi ∧ d ≤ (pcs bs).length ∧ 0 ≤ us ∧ pl ≤ calN bs d ∧ (figs (pcs bs)).length ≤ 4 ∧ (∀ c ∈ figs (pcs bs), 0 ≤ c) ∧
  ∀ H' r ts, Bt f.l H H' → H r = none → H' r = some (.lst (rv ts)) → MsT H' ts (movesM xs bs d us pl fi) → Q (.ref r) H'
theorem scMo : FnScope ["self", "state", "found", "line"] pSs (defScope sSMoves) := ⟨rfl, rfl, rfl, by decide +kernel, rfl, by decide +kernel, by decide +kernel⟩
theorem ok_mo {f f_is_final f_lines_from f_moves_with : Addr} {fd fd_is_final fd_lines_from fd_moves_with : FuncData} (B : Blt mg) (TS : Stp K mg CS) (F : Fun K "moves" "Steps.moves" sSMoves f fd)
    (F_is_final : Fun K "is_final" "Steps.is_final" sSFinal f_is_final fd_is_final) (b_is_final : Binds K fd_is_final pSs []) (m_is_final : Meth K CS "is_final" f_is_final)
    (F_lines_from : Fun K "lines_from" "Steps.lines_from" sSLines f_lines_from fd_lines_from) (b_lines_from : Binds K fd_lines_from ["self", "start"] []) (m_lines_from : Meth K CS "lines_from" f_lines_from) (G_lines_from : FnOk P w K mg base CX0 4 f_lines_from fd_lines_from ["self", "start"] (spLf CS CB))
    (F_moves_with : Fun K "_moves_with" "Steps._moves_with" sSWith f_moves_with fd_moves_with) (b_moves_with : Binds K fd_moves_with pMw []) (m_moves_with : Meth K CS "_moves_with" f_moves_with) (G_moves_with : FnOk P w K mg base CX0 3 f_moves_with fd_moves_with pMw (spMw CS CB)) : FnOk P w K mg base CX0 5 f fd pSs (spMo CS CB) := by
  have G_is_final : FnOk P w K mg base CX0 1 f_is_final fd_is_final pSs (spIf CS) := ok_if B TS F_is_final
  refine F.ok scMo (fun vs H Q E h => ?_) (fun cdv A0 outer s H vs Q E hr h => ?_)
  · obtain ⟨p, s0, f, bs, xs, d, us, pl, fi, rfl, _⟩ := h; rfl
  · obtain ⟨p, s0, f, bs, xs, d, us, pl, fi, rfl, sA, hB, gx, hsm, hnn, hb0, hst, hdl, hus, hpl, hf4, hfn, q⟩ := h
    have hr3 : Room 3 _ := hr.mono (by decide)
    have hr1 : Room 1 _ := hr.mono (by decide)
    have hs2 := hsm.2
    refine ⟨_, (pss_cons (ps_set (i := 2) scMo.nd rfl (.inl rfl) (pe_lst pa_nil))
      (pss_cons (ps_if (pt_not (pt_val (pe_meth (pv 0) TS.cl m_is_final G_is_final hr1 b_is_final .nil pass0 (pa_cons (pv 1) pa_nil))))
      (pss_one (ps_for (PassesOwn.never) rfl (pi_list (pe_meth (pv 0) TS.cl m_lines_from G_lines_from hr b_lines_from .nil pass0 (pa_cons (pe_ix ix_tup (pv 1) pe_int (fun _ _ => rfl)) pa_nil))) (pg_name (i := 3) scMo.nd rfl (.inl rfl))
       (pss_one (ps_expr (pe_bm PySem.F.plainAttrs_list PySem.F.slot_list_extend PySem.F.type_list_extend mt_extend (pv 2) (pa_cons (pe_meth (pv 0) TS.cl m_moves_with G_moves_with hr3 b_moves_with .nil pass0 (pa_cons (pv 1) (pa_cons (pv 3) pa_nil))) pa_nil))))))
      pss_nil)
      (pss_one (ps_ret (pv 2))))), ?_⟩
    refine ⟨Nat.zero_le _, fun R nR => ?_⟩
    have s1 := same_new nR (o := .lst [])
    have hR : (upd H R (.lst [])) R = some (.lst (rv [])) := upd_same
    generalize upd H R (.lst []) = H1 at s1 hR ⊢
    have sA1 := sA.same s1
    have hst1 := s1 _ _ hst
    obtain ⟨dx, os, hp, hBl, hA, hO, hT, hh, hc, hl, hb⟩ := id sA1
    refine ⟨.ref p, rfl, p, dx, _, rfl, hp, rfl, .ref s0, rfl, p, s0, f, bs, [], d, us, pl, fi, rfl, sA1, hst1, _, rfl, ?_⟩
    by_cases hd : d = (pcs bs).length
    · rw [decide_eq_true hd]
      refine iteF ⟨.ref R, rfl, q H1 R [] (fun b o _ h => s1 _ _ h) nR hR ?_⟩
      rw [movesM_end (by omega)]; exact MsT.nil _
    · rw [decide_eq_false hd]
      have hlp : d < (spans 0 0 bs).length := by rw [spans_len]; omega
      obtain ⟨k, s, e, esp⟩ : ∃ k s e, (spans 0 0 bs)[d]? = some (k, s, e) := ⟨_, _, _, List.getElem?_eq_getElem hlp⟩
      obtain ⟨b, j1, j2, j3, j4, j5, j6, j7⟩ := spans_at esp
      rw [Nat.sub_zero] at j2
      rw [Nat.zero_add] at j4 j5 j6
      rw [movesM_at esp j2] at q
      refine iteT ⟨.ref p, rfl, p, dx, _, rfl, hp, rfl, .ref s0, rfl, s0, _, 0, .int (d : Int), rfl, rfl, SqT.of hst1, rfl, p, f, bs, xs, d, k, s, e, b, rfl, sA1, hB.same s1, gx, hsm, hnn, hb0, esp, j2, fun H2 r ls b2 nr hr2 hls hle sA2 => ?_⟩
      have nR2 : R ≠ f.l := ne_of hR hl (fun z => nomatch z)
      have hR2 := b2 _ _ nR2 hR
      have kp2 : Kp H1 H2 := Kp.but hl (fun z => z) b2
      have hst2 : StT H2 s0 d us pl fi := kp2.tup hst1
      have hB2 : Bo.BookA CB H2 f.bk xs := by
        obtain ⟨dk, w0, a1, a2⟩ := hB.same s1
        exact ⟨dk, w0, b2 _ _ (ne_of a1 hl (fun z => nomatch z)) a1, kp2.tup a2⟩
      have hle2 : ls.length ≤ 200 := by
        have := congrArg List.length hle
        rw [List.length_map] at this
        have := endsM_len (numAt xs 0) bs d s b (e - d)
        omega
      have hrR : r ≠ R := fun z => by rw [z] at nr; rw [hR] at nr; cases nr
      refine ⟨r, rfl, ⟨_, SqL.of hr2⟩, for_list (K := K) (a := r) (xs := lv ls) (fun i σ H' => ∃ (y : Option V) (ts : List Addr), σ = [some (.ref p), some (.ref s0), some (.ref R), y] ∧ Bt R H2 H' ∧ H' R = some (.lst (rv ts)) ∧ ts.length ≤ 10 * i ∧ MsT H' ts ((ls.take i).flatMap fun x => withM xs bs d us pl fi x (calN bs d - pl + 1))) ⟨none, [], rfl, Bt.refl _ _, hR2, Nat.le_refl _, MsT.nil _⟩ (fun i σ H' _ ⟨_, _, _, sm, _⟩ => SqL.of (sm _ _ hrR hr2)) ?_ ?_⟩
      · rintro i x0 σ H3 hi ⟨y, ts, rfl, b3, hR3, htl, hms⟩
        obtain ⟨x, ex, rfl⟩ : ∃ x, ls[i]? = some x ∧ x0 = .ref x.t := by
          unfold lv at hi
          rw [List.getElem?_map] at hi
          obtain ⟨x, e1, e2⟩ := Option.map_eq_some_iff.mp hi
          exact ⟨x, e1, e2.symm⟩
        have kp3 : Kp H2 H3 := Kp.but hR2 (fun z => z) b3
        have ne3 : ∀ {a : Addr} {o : HO}, H1 a = some o → a ≠ R → H2 a = some o → H3 a = some o := fun _ n h => b3 _ _ n h
        obtain ⟨dx2, os2, hp2, hBl2, hA2, hO2, hT2, hh2, hc2, hl2, hb2⟩ := id sA2
        -- nothing of the Steps stands at R
        have nA : ∀ {a : Addr} {o : HO}, H a = some o → a ≠ R := fun h => ne_of_none h nR
        obtain ⟨dx0, os0, hp0, hBl0, hA0, hO0, hT0, hh0, hc0, hl0, hb00⟩ := id sA
        have sA3 : StA CS H3 p f bs [(.inl (d : Int), .ref r)] := ⟨dx2, os2, b3 _ _ (nA hp0) hp2, b3 _ _ (nA hBl0) hBl2, b3 _ _ (nA hA0) hA2, b3 _ _ (nA hO0) hO2, hT2.kp kp3, b3 _ _ (nA hh0) hh2, b3 _ _ (nA hc0) hc2, b3 _ _ (nA hl0) hl2, hb2.kp kp3⟩
        have hB3 : Bo.BookA CB H3 f.bk xs := by
          obtain ⟨dk, w0, a1, a2⟩ := hB
          obtain ⟨dk', w0', c1, c2⟩ := hB2
          exact ⟨dk', w0', b3 _ _ (nA a1) c1, kp3.tup c2⟩
        obtain ⟨g1, g2⟩ := hls x (List.mem_of_getElem? ex)
        refine ⟨.ref R, rfl, .inl ⟨rfl, _, SqL.of hR3⟩, .ref p, rfl, p, dx2, _, rfl, b3 _ _ (nA hp0) hp2, rfl, .ref s0, rfl, .ref x.t, rfl, p, s0, f, bs, _, xs, d, us, pl, fi, x, rfl, sA3, hB3, gx, kp3.tup hst2, kp3.tup g1, hdl, hus, hpl, by omega, hfn, fun H4 r4 t4 s4 nr4 hr4 hm4 => ?_⟩
        have hR4 := s4 _ _ hR3
        have hcl := figs_take_le bs d
        have hl4 : t4.length ≤ 10 := by
          rw [hm4.1]
          have := withM_len (xs := xs) (bs := bs) (d := d) (us := us) (pl := pl) (fi := fi) (x := x) (n := calN bs d - pl + 1)
          omega
        have kp5 : Kp H4 (upd H4 R (.lst (rv ts ++ rv t4))) := Kp.but hR4 (fun z => z) upd_but
        have hil := (List.getElem?_eq_some_iff.mp ex).1
        refine ⟨R, r4, _, _, rfl, rfl, hR4, hr4, by rw [rv_len, rv_len, sizeLine_eq]; omega, _, ts ++ t4, rfl, fun b o n h => by rw [upd_ne n]; exact s4 _ _ (b3 _ _ n h), by rw [upd_same, rv_app], by rw [List.length_append]; omega, ?_⟩
        rw [List.take_add_one, ex]
        show MsT _ _ ((ls.take i ++ [x]).flatMap _)
        rw [List.flatMap_append, List.flatMap_singleton]
        exact ((hms.kp (Kp.of s4)).app hm4).kp kp5
      · rintro σ H3 ⟨y, ts, rfl, b3, hR3, htl, hms⟩
        unfold lv at hms
        rw [List.length_map, List.take_length] at hms
        refine ⟨.ref R, rfl, q H3 R ts (fun b o n h => b3 _ _ (ne_of_none h nR) (b2 _ _ n (s1 _ _ h))) nR hR3 ?_⟩
        rw [← hle, List.flatMap_map]
        have e : ls.flatMap (fun x => withM xs bs d us pl fi x (calN bs d - pl + 1)) = ls.flatMap fun x => withM xs bs d us pl fi (lnM xs bs d s e b x.en) (calN bs d - pl + 1) := by
          clear hle hr2 hle2 hms htl
          induction ls with
          | nil => rfl
          | cons x ls ih =>
            rw [List.flatMap_cons, List.flatMap_cons, withM_ln (hls x List.mem_cons_self).2, ih fun y hy => hls y (List.mem_cons_of_mem _ hy)]
        rw [← e]; exact hms
/-! ### moves_of, final_cost -/
def HypM (C CB : Addr) (H : Hp) (g bk s0 : Addr) (l : L3) (bs : List Bk) (xs : List V) (d : Nat) (us : Int) (pl : Nat) (fi : Bool) : Prop := GalA C H g l bs ∧ Bo.BookA CB H bk xs ∧ Bo.Good xs ∧ Small bs ∧ (∀ p ∈ pcs bs, NnOk p) ∧ (∀ b ∈ bs, 0 ≤ b.b) ∧ StT H s0 d us pl fi ∧ d ≤ (pcs bs).length ∧ 0 ≤ us ∧ pl ≤ calN bs d ∧ (figs (pcs bs)).length ≤ 4 ∧ (∀ c ∈ figs (pcs bs), 0 ≤ c)
def spMof (C CB : Addr) : Sp := fun vs H Q _ => ∃ (g bk s0 : Addr) (l : L3) (bs : List Bk) (xs : List V) (d : Nat) (us : Int) (pl : Nat) (fi : Bool), vs = [.ref g, .ref bk, .ref s0] ∧ HypM C CB H g bk s0 l bs xs d us pl fi ∧
  ∀ H' r ts, Same H H' → H r = none → H' r = some (.lst (rv ts)) → MsT H' ts (movesM xs bs d us pl fi) → Q (.ref r) H'
abbrev pMof : List Str := ["galley", "book", "state"]
theorem scMof : FnScope pMof pMof (defScope sMovesOf) := ⟨rfl, rfl, rfl, by decide +kernel, rfl, by decide +kernel, by decide +kernel⟩
theorem ok_mof {f f_init f_moves : Addr} {fd fd_init fd_moves : FuncData} (TS : Stp K mg CS) (MS : Mk K CS f_init) (F : Fun K "moves_of" "moves_of" sMovesOf f fd) (b_init : Binds K fd_init pSI []) (G_init : FnOk P w K mg base CX0 5 f_init fd_init pSI (spSI C CS))
    (F_moves : Fun K "moves" "Steps.moves" sSMoves f_moves fd_moves) (b_moves : Binds K fd_moves pSs []) (m_moves : Meth K CS "moves" f_moves) (G_moves : FnOk P w K mg base CX0 5 f_moves fd_moves pSs (spMo CS CB)) : FnOk P w K mg base CX0 7 f fd pMof (spMof C CB) := by
  refine F.ok scMof (fun vs H Q E h => ?_) (fun cdv A0 outer s H vs Q E hr h => ?_)
  · obtain ⟨g, bk, s0, l, bs, xs, d, us, pl, fi, rfl, _⟩ := h; rfl
  · obtain ⟨g, bk, s0, l, bs, xs, d, us, pl, fi, rfl, ⟨gA, hB, gx, hsm, hnn, hb0, hst, hdl, hus, hpl, hf4, hfn⟩, q⟩ := h
    have hr6 : Room 6 _ := hr
    have hr5 : Room 5 _ := hr.mono (by decide)
    refine ⟨_, (pss_one (ps_ret (pe_meth (pe_make MS G_init hr6 (by rfl) TS.mgC b_init .nil pass0 (pa_cons (pv 0) (pa_cons (pv 1) pa_nil))) TS.cl m_moves G_moves hr5 b_moves .nil pass0 (pa_cons (pv 2) pa_nil)))), ?_⟩
    obtain ⟨dg, hg⟩ := gA.ins
    refine ⟨.ref g, rfl, .ref bk, rfl, fun p dx np ndx hne => ?_⟩
    have sM : Same H (upd (upd H dx (.own p)) p (.ins CS dx [])) := made_up np ndx
    refine ⟨p, dx, g, bk, l, bs, rfl, upd_same, gA.same sM, ne_of_none hg np, hsm, hf4, fun H2 f7 b2 hfb nfl sA => ⟨rfl, ?_⟩⟩
    have s2 : Same H H2 := made_same np ndx b2
    obtain ⟨dx2, os2, hp2, hrest⟩ := id sA
    refine ⟨p, dx2, _, rfl, hp2, rfl, .ref s0, rfl, p, s0, f7, bs, xs, d, us, pl, fi, rfl, sA, by rw [hfb]; exact hB.same s2, gx, hsm, hnn, hb0, s2 _ _ hst, hdl, hus, hpl, hf4, hfn, fun H3 r ts b3 nr hr3 hms => ?_⟩
    refine q H3 r ts (fun b o h => b3 _ _ (fun z => ?_) (s2 _ _ h)) (s2.free nr) hr3 hms
    have := sM _ _ h
    rw [z, nfl] at this; cases this
def spFof (C CB : Addr) : Sp := fun vs H Q _ => ∃ (g bk s0 : Addr) (l : L3) (bs : List Bk) (xs : List V) (d : Nat) (us : Int) (pl : Nat) (fi : Bool), vs = [.ref g, .ref bk, .ref s0] ∧ HypM C CB H g bk s0 l bs xs d us pl fi ∧
  ∀ H', Same H H' → Q (.int (numAt xs 7 * (((figs (pcs bs)).length : Int) - (pl : Int)))) H'
theorem scFof : FnScope pMof pMof (defScope sFinalCost) := ⟨rfl, rfl, rfl, by decide +kernel, rfl, by decide +kernel, by decide +kernel⟩
theorem ok_fof {f f_init f_final_cost : Addr} {fd fd_init fd_final_cost : FuncData} (B : Blt mg) (TB : Bo.Bok K mg CB FT mc u) (TS : Stp K mg CS) (MS : Mk K CS f_init) (F : Fun K "final_cost" "final_cost" sFinalCost f fd) (b_init : Binds K fd_init pSI []) (G_init : FnOk P w K mg base CX0 5 f_init fd_init pSI (spSI C CS))
    (F_final_cost : Fun K "final_cost" "Steps.final_cost" sSCost f_final_cost fd_final_cost) (b_final_cost : Binds K fd_final_cost pSs []) (m_final_cost : Meth K CS "final_cost" f_final_cost) : FnOk P w K mg base CX0 7 f fd pMof (spFof C CB) := by
  have G_final_cost : FnOk P w K mg base CX0 1 f_final_cost fd_final_cost pSs (spFc CS CB) := ok_fc B TB TS F_final_cost
  refine F.ok scFof (fun vs H Q E h => ?_) (fun cdv A0 outer s H vs Q E hr h => ?_)
  · obtain ⟨g, bk, s0, l, bs, xs, d, us, pl, fi, rfl, _⟩ := h; rfl
  · obtain ⟨g, bk, s0, l, bs, xs, d, us, pl, fi, rfl, ⟨gA, hB, gx, hsm, hnn, hb0, hst, hdl, hus, hpl, hf4, hfn⟩, q⟩ := h
    have hr6 : Room 6 _ := hr
    have hr1 : Room 1 _ := hr.mono (by decide)
    refine ⟨_, (pss_one (ps_ret (pe_meth (pe_make MS G_init hr6 (by rfl) TS.mgC b_init .nil pass0 (pa_cons (pv 0) (pa_cons (pv 1) pa_nil))) TS.cl m_final_cost G_final_cost hr1 b_final_cost .nil pass0 (pa_cons (pv 2) pa_nil)))), ?_⟩
    obtain ⟨dg, hg⟩ := gA.ins
    refine ⟨.ref g, rfl, .ref bk, rfl, fun p dx np ndx hne => ?_⟩
    have sM : Same H (upd (upd H dx (.own p)) p (.ins CS dx [])) := made_up np ndx
    refine ⟨p, dx, g, bk, l, bs, rfl, upd_same, gA.same sM, ne_of_none hg np, hsm, hf4, fun H2 f7 b2 hfb nfl sA => ⟨rfl, ?_⟩⟩
    have s2 : Same H H2 := made_same np ndx b2
    obtain ⟨dx2, os2, hp2, hrest⟩ := id sA
    exact ⟨p, dx2, _, rfl, hp2, rfl, .ref s0, rfl, p, s0, f7, bs, _, xs, d, us, pl, fi, rfl, sA, by rw [hfb]; exact hB.same s2, gx, s2 _ _ hst, q H2 s2⟩
end
end K37

set_option maxRecDepth 100000
set_option maxHeartbeats 8000000
namespace K37
open PySem PySem.Spec PyProof.Rows L2
def baseC (room over w : Int) (il : Bool) : Int := if w > room then (w - room) * over else if il = true then 0 else (room - w) * (room - w)
theorem price_eq (room over joint w : Int) (il hj : Bool) : priceM room over joint w il hj = baseC room over w il + if hj = true then joint else 0 := by
  unfold priceM baseC gapM posM
  by_cases h : w > room
  · rw [if_pos h, if_pos h, if_pos (by omega : w - room > 0), Int.mul_comm over]
    cases il <;> simp
  · rw [if_neg h, if_neg h, if_neg (by omega : ¬ w - room > 0)]
    cases il <;> simp
/-- blocks and what _law_flat makes of them -/
def FlA (H : Hp) (a fa : Addr) (bs : List Bk) (fs : List V) : Prop := H a = some (.lst (bv bs)) ∧ BsT H bs ∧ H fa = some (.lst fs) ∧ FlatT H fs (pcs bs) (spans 0 0 bs)
theorem FlA.same {H H' : Hp} {a fa : Addr} {bs : List Bk} {fs : List V} (h : FlA H a fa bs fs) (s : Same H H') : FlA H' a fa bs fs := ⟨s _ _ h.1, h.2.1.kp (Kp.of s), s _ _ h.2.2.1, h.2.2.2.kp (Kp.of s)⟩
theorem keep_eq {bs : List Bk} {d k s e k' s' e' : Nat} {b' : Bk} (h1 : (spans 0 0 bs)[d + 1]? = some (k, s, e)) (h2 : (spans 0 0 bs)[d]? = some (k', s', e')) (h3 : bs[k']? = some b') : keepM bs (d + 1) = (decide (d + 1 = s) && b'.f) := by
  show (match (spans 0 0 bs)[d]? with
    | some (k, _, e) => decide (e = d + 1) && (match bs[k]? with
      | some b => b.f
      | none => false)
    | none => false) = _
  rw [h2]
  show (decide (e' = d + 1) && (match bs[k']? with
      | some b => b.f
      | none => false)) = _
  rw [h3]
  show (decide (e' = d + 1) && b'.f) = _
  congr 1
  rw [Bool.eq_iff_iff, decide_eq_true_iff, decide_eq_true_iff]
  obtain ⟨_, _, _, _, a4, a5, a6, a7⟩ := spans_at h1
  obtain ⟨_, _, _, _, c4, c5, c6, c7⟩ := spans_at h2
  rw [Nat.zero_add] at a4 a5 c4 c5
  constructor
  · intro he
    refine Decidable.byContradiction fun z => ?_
    have := a7 d (by omega) (by omega)
    rw [h2] at this; cases this; omega
  · intro hs
    refine Decidable.byContradiction fun z => ?_
    have := c7 (d + 1) (by omega) (by omega)
    rw [h1] at this; cases this; omega
section
variable {P : Program} {w : World} {K : PySem.W.Frag} {mg : Str → Option Value} {base : Heap} {t3 t4 : Tok} {C CS CN CB FT fi fl fb pp gp pf gf : Addr} {mc u : Value} {di dl db dp df : FuncData}
/-! ### _law_line_cost -/
def spLcl : Sp := fun vs H Q _ => ∃ (a fa nm : Addr) (bs : List Bk) (fs xs : List V) (st en k s e : Nat) (b : Bk), vs = [.ref a, .ref fa, .ref nm, .int (st : Int), .int (en : Int)] ∧ FlA H a fa bs fs ∧ H nm = some (.lst xs) ∧ Bo.Good xs ∧ LineAt bs st en k s e b ∧ 0 ≤ natM (segM bs st en) (indM st s b) ∧ en ≤ e ∧ Q (.int (priceM (numAt xs 0) (numAt xs 3) (numAt xs 2) (natM (segM bs st en) (indM st s b)) (decide (e = en)) (hjM bs en))) H
abbrev pLcl : List Str := ["_law_blocks", "_law_flat_here", "_law_nums", "_law_start", "_law_end"]
theorem scLcl : FnScope ["_law_blocks", "_law_flat_here", "_law_nums", "_law_start", "_law_end", "_law_width_here", "_law_total"] pLcl (defScope sLineCostL) := ⟨rfl, rfl, rfl, by decide +kernel, rfl, by decide +kernel, by decide +kernel⟩
theorem ok_lcl {f f_width : Addr} {fd fd_width : FuncData} (B : Blt mg) (F : Fun K "_law_line_cost" "_law_line_cost" sLineCostL f fd) (F_width : Fun K "_law_width" "_law_width" sWidthL f_width fd_width) (b_width : Binds K fd_width pWi []) (g_width : mg "_law_width" = some (.ref f_width)) : FnOk P w K mg base CX0 2 f fd pLcl spLcl := by
  have G_width : FnOk P w K mg base CX0 1 f_width fd_width pWi spWi := ok_wid B F_width
  refine F.ok scLcl (fun vs H Q E h => ?_) (fun cdv A0 outer s H vs Q E hr h => ?_)
  · obtain ⟨a, fa, nm, bs, fs, xs, st, en, k, s, e, b, rfl, _⟩ := h; rfl
  · obtain ⟨a, fa, nm, bs, fs, xs, st, en, k, s, e, b, rfl, ⟨ha, hb, hF, hT⟩, hn, gx, L, W0, hen, q⟩ := h
    obtain ⟨n0, r1, r2⟩ := good_num gx (k := 0) (by decide)
    obtain ⟨n3, o1, o2⟩ := good_num gx (k := 3) (by decide)
    have r1 : 1 ≤ numAt xs 0 := r1
    have r2 : numAt xs 0 ≤ 2000 := r2
    have o1 : 0 ≤ numAt xs 3 := o1
    have o2 : numAt xs 3 ≤ 2000 := o2
    have at0 : atI xs 0 = some (.int (numAt xs 0)) := by show atI xs ((0 : Nat) : Int) = _; exact atI_nat (good_num gx (k := 0) (by decide)).1
    have at2 : atI xs 2 = some (.int (numAt xs 2)) := by show atI xs ((2 : Nat) : Int) = _; exact atI_nat (good_num gx (k := 2) (by decide)).1
    have at3 : atI xs 3 = some (.int (numAt xs 3)) := by show atI xs ((3 : Nat) : Int) = _; exact atI_nat (good_num gx (k := 3) (by decide)).1
    have lle := L.le
    have llt := L.lt
    obtain ⟨rs, ql, es, hq⟩ := L.seg
    have hj : hjM bs en = decide (ql.tw = Str.ofString "joint") := by unfold hjM; rw [hq]
    have ee : (en : Int) - 1 = ((en - 1 : Nat) : Int) := by omega
    obtain ⟨pc, epc⟩ : ∃ x, (pcs bs)[st]? = some x := ⟨_, List.getElem?_eq_getElem (by omega)⟩
    obtain ⟨tt, g1, g2⟩ := hT.2.2 st pc k s e epc L.sp
    obtain ⟨tu, v1, v2⟩ := hT.2.2 (en - 1) ql k s e hq L.sp2
    obtain ⟨c1, c2, _⟩ := hb.pcs ql (List.mem_of_getElem? hq)
    refine ⟨_, (pss_cons (ps_set (i := 5) scLcl.nd rfl (.inl rfl) (pe_call G_width hr (by rfl) g_width F_width.kp b_width .nil pass0 (pa_cons (pv 0) (pa_cons (pv 1) (pa_cons (pv 3) (pa_cons (pv 4) pa_nil))))))
      (pss_cons (ps_set (i := 6) scLcl.nd rfl (.inl rfl) pe_int)
      (Evl.pss_cut (ps_if (pt_cmpR op_gt (pv 5) (pe_ix ix_list (pv 2) pe_int (fun _ _ => rfl)) (nomark _))
      (pss_one (ps_set (i := 6) scLcl.nd rfl (.inl rfl) (pe_op op_mul (pe_op op_sub (pv 5) (pe_ix ix_list (pv 2) pe_int (fun _ _ => rfl))) (pe_ix ix_list (pv 2) pe_int (fun _ _ => rfl)))))
      (pss_one (ps_if (pt_cmpR op_ne (pv 4) (pe_ix ix_tup (pe_ix ix_list (pv 1) (pv 3) (fun _ _ => rfl)) pe_int (fun _ _ => rfl)) (nomark _))
       (pss_one (ps_set (i := 6) scLcl.nd rfl (.inl rfl) (pe_op op_mul (pe_op op_sub (pe_ix ix_list (pv 2) pe_int (fun _ _ => rfl)) (pv 5)) (pe_op op_sub (pe_ix ix_list (pv 2) pe_int (fun _ _ => rfl)) (pv 5)))))
       pss_nil)))
      (pss_cons (ps_if (pt_cmpR op_eq (pe_ix ix_tup (pe_ix ix_tup (pe_ix ix_tup (pe_ix ix_list (pv 1) (pe_op op_sub (pv 4) pe_int) (fun _ _ => rfl)) pe_int (fun _ _ => rfl)) pe_int (fun _ _ => rfl)) pe_int (fun _ _ => rfl)) pe_str (nomark _))
      (pss_one (ps_set (i := 6) scLcl.nd rfl (.inl rfl) (pe_op op_add (pv 6) (pe_ix ix_list (pv 2) pe_int (fun _ _ => rfl)))))
      pss_nil)
      (pss_one (ps_ret (pv 6))))))), ?_⟩
    refine ⟨.ref a, rfl, .ref fa, rfl, .int (st : Int), rfl, .int (en : Int), rfl, a, fa, bs, fs, st, en, k, s, e, b, rfl, ha, hb, hF, hT, L, ?_⟩
    rw [hj] at q
    generalize natM (segM bs st en) (indM st s b) = W at W0 q ⊢
    rw [price_eq] at q
    refine ⟨fun σ' H' => σ' = [some (.ref a), some (.ref fa), some (.ref nm), some (.int (st : Int)), some (.int (en : Int)), some (.int W), some (.int (baseC (numAt xs 0) (numAt xs 3) W (decide (e = en))))] ∧ H' = H, ?_, ?_⟩
    · refine ⟨.int W, rfl, .ref nm, rfl, nm, _, 0, .int (numAt xs 0), rfl, rfl, SqL.of hn, at0, _, _, rfl, rfl, _, rfl, ite2 (fun h1 => ?_) (fun h1 => ?_)⟩
      · have h1 := of_decide_eq_true h1
        refine ⟨.int W, rfl, .ref nm, rfl, nm, _, 0, .int (numAt xs 0), rfl, rfl, SqL.of hn, at0, _, _, rfl, rfl, .ref nm, rfl, nm, _, 3, .int (numAt xs 3), rfl, rfl, SqL.of hn, at3, _, _, rfl, rfl, .inr ⟨by omega, by omega⟩, ?_, rfl⟩
        unfold baseC; rw [if_pos h1]; rfl
      · have h1 : ¬ W > numAt xs 0 := fun z => h1 (decide_eq_true z)
        refine ⟨.int (en : Int), rfl, .ref fa, rfl, .int (st : Int), rfl, fa, _, _, .ref tt, rfl, rfl, SqL.of hF, atI_nat g1, tt, _, 3, .int (e : Int), rfl, rfl, SqT.of g2, rfl, rfl, _, rfl, ite2 (fun h2 => ?_) (fun h2 => ?_)⟩
        · have hne : ¬ e = en := fun z => by subst z; simp at h2
          refine ⟨.ref nm, rfl, nm, _, 0, .int (numAt xs 0), rfl, rfl, SqL.of hn, at0, .int W, rfl, _, _, rfl, rfl, .ref nm, rfl, nm, _, 0, .int (numAt xs 0), rfl, rfl, SqL.of hn, at0, .int W, rfl, _, _, rfl, rfl, _, _, rfl, rfl, .inl ⟨by omega, by omega⟩, ?_, rfl⟩
          unfold baseC; rw [if_neg h1, decide_eq_false hne, if_neg (by decide)]; rfl
        · have heq : e = en := Decidable.byContradiction fun z => h2 (by
            have : ¬ V.int (en : Int) = V.int (e : Int) := fun y => by have := V.int.inj y; omega
            simp [this])
          refine ⟨?_, rfl⟩
          unfold baseC; rw [if_neg h1, decide_eq_true heq, if_pos rfl]; rfl
    rintro σ' H' ⟨rfl, rfl⟩
    refine ⟨.ref fa, rfl, .int (en : Int), rfl, _, _, rfl, rfl, fa, _, _, .ref tu, rfl, rfl, SqL.of hF, (by rw [ee]; exact atI_nat v1), tu, _, 0, .ref ql.t, rfl, rfl, SqT.of v2, rfl, ql.t, _, 1, .ref ql.ti, rfl, rfl, SqT.of c1, rfl, ql.ti, _, 0, .str ql.tw, rfl, rfl, SqT.of c2, (show atI (V.str ql.tw :: _) ((0 : Nat) : Int) = _ from atI_nat rfl), rfl, _, rfl, ite2 (fun h => ?_) (fun h => ?_)⟩
    · have hjt : ql.tw = Str.ofString "joint" := V.str.inj (of_decide_eq_true h)
      rw [decide_eq_true hjt, if_pos rfl] at q
      exact ⟨.int _, rfl, .ref nm, rfl, nm, _, 2, .int (numAt xs 2), rfl, rfl, SqL.of hn, at2, _, _, rfl, rfl, .int _, rfl, q⟩
    · have hjt : ¬ ql.tw = Str.ofString "joint" := fun e => h (decide_eq_true (congrArg V.str e))
      rw [decide_eq_false hjt, if_neg (by decide), Int.add_zero] at q
      exact ⟨.int _, rfl, q⟩
/-! ### _law_need -/
def spNe : Sp := fun vs H Q _ => ∃ (a fa : Addr) (bs : List Bk) (fs : List V) (st en k s e : Nat) (b : Bk), vs = [.ref a, .ref fa, .int (st : Int), .int (en : Int)] ∧ FlA H a fa bs fs ∧ LineAt bs st en k s e b ∧ ∀ H', Same H H' → Q (.int (needM bs st en s b)) H'
theorem scNe : FnScope ["_law_blocks", "_law_flat_here", "_law_start", "_law_end", "_law_block", "_law_need_here", "_law_k"] pWi (defScope sNeed) := ⟨rfl, rfl, rfl, by decide +kernel, rfl, by decide +kernel, by decide +kernel⟩
theorem ok_ne {f : Addr} {fd : FuncData} (B : Blt mg) (F : Fun K "_law_need" "_law_need" sNeed f fd) : FnOk P w K mg base CX0 1 f fd pWi spNe := by
  refine F.ok scNe (fun vs H Q E h => ?_) (fun cdv A0 outer s H vs Q E hr h => ?_)
  · obtain ⟨a, fa, bs, fs, st, en, k, s, e, b, rfl, _⟩ := h; rfl
  · obtain ⟨a, fa, bs, fs, st, en, k, s, e, b, rfl, ⟨ha, hb, hF, hT⟩, L, q⟩ := h
    have lle := L.le
    have llt := L.lt
    have hsm := L.small.2
    obtain ⟨pc, epc⟩ : ∃ x, (pcs bs)[st]? = some x := ⟨_, List.getElem?_eq_getElem (by omega)⟩
    obtain ⟨tt, g1, g2⟩ := hT.2.2 st pc k s e epc L.sp
    obtain ⟨d1, _⟩ := hb b (List.mem_of_getElem? L.bk)
    refine ⟨_, (pss_cons (ps_set (i := 4) scNe.nd rfl (.inl rfl) (pe_ix ix_list (pv 0) (pe_ix ix_tup (pe_ix ix_list (pv 1) (pv 2) (fun _ _ => rfl)) pe_int (fun _ _ => rfl)) (fun _ _ => rfl)))
      (pss_cons (ps_set (i := 5) scNe.nd rfl (.inl rfl) (pe_ix ix_tup (pv 4) pe_int (fun _ _ => rfl)))
      (Evl.pss_cut (ps_if (pt_cmpR op_eq (pv 2) (pe_ix ix_tup (pe_ix ix_list (pv 1) (pv 2) (fun _ _ => rfl)) pe_int (fun _ _ => rfl)) (nomark _))
      (pss_one (ps_set (i := 5) scNe.nd rfl (.inl rfl) (pe_op op_add (pv 5) (pe_ix ix_tup (pv 4) pe_int (fun _ _ => rfl)))))
      pss_nil)
      (pss_cons (ps_for (PassesOwn.never) rfl (pi_range2 (by rfl) B.range (pa_cons (pv 2) (pa_cons (pv 3) pa_nil))) (pg_name (i := 6) scNe.nd rfl (.inl rfl))
      (pss_one (ps_set (i := 5) scNe.nd rfl (.inl rfl) (pe_op op_add (pv 5) (pe_callB (cr_sum rfl) (by rfl) B.sum (by decide +kernel) (pa_cons (pe_callTy call_list_of (by rfl) B.list (by decide +kernel) (pa_cons (pe_ix ix_tup (pe_ix ix_tup (pe_ix ix_list (pv 1) (pv 6) (fun _ _ => rfl)) pe_int (fun _ _ => rfl)) pe_int (fun _ _ => rfl)) pa_nil)) pa_nil))))))
      (pss_one (ps_ret (pv 5))))))), ?_⟩
    refine ⟨.ref a, rfl, .ref fa, rfl, .int (st : Int), rfl, fa, _, _, .ref tt, rfl, rfl, SqL.of hF, atI_nat g1, tt, _, 1, .int (k : Int), rfl, rfl, SqT.of g2, rfl, a, _, _, .ref b.t, rfl, rfl, SqL.of ha, atI_nat (bv_at L.bk), ?_⟩
    refine ⟨.ref b.t, rfl, b.t, _, 0, .int b.a, rfl, rfl, SqT.of d1, rfl, ?_⟩
    refine ⟨fun σ' H' => σ' = [some (.ref a), some (.ref fa), some (.int (st : Int)), some (.int (en : Int)), some (.ref b.t), some (.int (b.a + if st = s then b.c else 0)), none] ∧ H' = H, ?_, ?_⟩
    · refine ⟨.int (st : Int), rfl, .ref fa, rfl, .int (st : Int), rfl, fa, _, _, .ref tt, rfl, rfl, SqL.of hF, atI_nat g1, tt, _, 2, .int (s : Int), rfl, rfl, SqT.of g2, rfl, rfl, _, rfl, ite2 (fun h => ?_) (fun h => ?_)⟩
      · have hss : st = s := by have := V.int.inj (of_decide_eq_true h); omega
        refine ⟨.int b.a, rfl, .ref b.t, rfl, b.t, _, 2, .int b.c, rfl, rfl, SqT.of d1, rfl, _, _, rfl, rfl, ?_, rfl⟩
        rw [if_pos hss]; rfl
      · refine ⟨?_, rfl⟩
        rw [if_neg (fun z => h (decide_eq_true (congrArg V.int (by omega)))), Int.add_zero]; rfl
    rintro σ' H' ⟨rfl, rfl⟩
    refine ⟨.int (st : Int), rfl, .int (en : Int), rfl, (st : Int), (en : Int), rfl, ⟨by omega, by omega, by omega, by omega⟩, ?_⟩
    have eN : ((en : Int) - (st : Int)).toNat = en - st := by omega
    rw [eN]
    refine for_range (lo := (st : Int)) (n := en - st) (fun i σ H2 => ∃ y6, σ = [some (.ref a), some (.ref fa), some (.int (st : Int)), some (.int (en : Int)), some (.ref b.t), some (.int (needM bs st (st + i) s b)), y6] ∧ Same H' H2) ⟨none, by
      unfold needM
      rw [Nat.add_zero, segM_zero]
      show _ = ([_, _, _, _, _, some (V.int (b.a + (if st = s then b.c else 0) + 0)), _] : L2.St)
      rw [Int.add_zero], Same.refl _⟩ ?_ ?_
    · rintro i σ H2 hi ⟨y6, rfl, s2⟩
      have e0 : (st : Int) + (i : Int) = ((st + i : Nat) : Int) := by omega
      rw [e0]
      obtain ⟨p, ep⟩ : ∃ x, (pcs bs)[st + i]? = some x := ⟨_, List.getElem?_eq_getElem (by omega)⟩
      obtain ⟨k', s', e', esp⟩ : ∃ k s e, (spans 0 0 bs)[st + i]? = some (k, s, e) := ⟨_, _, _, List.getElem?_eq_getElem (by rw [spans_len]; omega)⟩
      obtain ⟨u, u1, u2⟩ := hT.2.2 (st + i) p k' s' e' ep esp
      obtain ⟨c1, c2, c3, c4, _⟩ := (hb.kp (Kp.of s2)).pcs p (List.mem_of_getElem? ep)
      refine ⟨.int _, rfl, .ref fa, rfl, .int _, rfl, fa, _, _, .ref u, rfl, rfl, SqL.of (s2 _ _ hF), atI_nat u1, u, _, 0, .ref p.t, rfl, rfl, SqT.of (s2 _ _ u2), rfl, p.t, _, 2, .ref p.no, rfl, rfl, SqT.of c1, rfl, p.no, _, rfl, .inr (SqT.of c4), fun z nz => ?_⟩
      have s3 := same_new nz (o := .lst (p.notes.map V.int))
      refine ⟨z, p.notes, rfl, SqL.of upd_same, _, _, rfl, rfl, some (.int ((st + i : Nat) : Int)), congrArg (fun y : Int => [some (V.ref a), some (V.ref fa), some (V.int (st : Int)), some (V.int (en : Int)), some (V.ref b.t), some (V.int y), some (V.int ((st + i : Nat) : Int))]) ?_, s2.trans s3⟩
      unfold needM
      rw [show st + (i + 1) = st + i + 1 by omega, segM_succ ep, sumN_snoc]; omega
    · rintro σ H2 ⟨y6, rfl, s2⟩
      rw [show st + (en - st) = en by omega]
      exact ⟨.int _, rfl, q H2 s2⟩
/-! ### _law_turn -/
def spTu : Sp := fun vs H Q _ => ∃ (a fa nm s0 : Addr) (bs : List Bk) (fs xs : List V) (d k s e en : Nat) (us : Int) (pl : Nat) (fi : Bool), vs = [.ref a, .ref fa, .ref nm, .ref s0, .int (en : Int)] ∧ FlA H a fa bs fs ∧ H nm = some (.lst xs) ∧ Bo.Good xs ∧ StT H s0 d us pl fi ∧ 0 < d ∧ (spans 0 0 bs)[d]? = some (k, s, e) ∧ 0 ≤ us ∧ Q (.int (openM xs bs d us 0 fi (decide (e = en) && !decide (d = s)))) H
abbrev pTu : List Str := ["_law_blocks", "_law_flat_here", "_law_nums", "_law_state", "_law_end"]
theorem scTu : FnScope ["_law_blocks", "_law_flat_here", "_law_nums", "_law_state", "_law_end", "_law_done", "_law_used", "_law_placed", "_law_first", "_law_free", "_law_cost"] pTu (defScope sTurn) := ⟨rfl, rfl, rfl, by decide +kernel, rfl, by decide +kernel, by decide +kernel⟩
theorem ok_tu {f : Addr} {fd : FuncData} (B : Blt mg) (F : Fun K "_law_turn" "_law_turn" sTurn f fd) : FnOk P w K mg base CX0 1 f fd pTu spTu := by
  refine F.ok scTu (fun vs H Q E h => ?_) (fun cdv A0 outer s H vs Q E hr h => ?_)
  · obtain ⟨a, fa, nm, s0, bs, fs, xs, d, k, s, e, en, us, pl, fi, rfl, _⟩ := h; rfl
  · obtain ⟨a, fa, nm, s0, bs, fs, xs, d, k, s, e, en, us, pl, fi, rfl, ⟨ha, hb, hF, hT⟩, hn, gx, hst, hd0, hsp, hus, q⟩ := h
    obtain ⟨_, _, a4⟩ := good_num gx (k := 1) (by decide)
    have a4 : numAt xs 1 ≤ 2000 := a4
    have fr : 0 ≤ posM (numAt xs 1 - us) ∧ posM (numAt xs 1 - us) ≤ 2000 := by unfold posM; split <;> omega
    have at1 : atI xs 1 = some (.int (numAt xs 1)) := by show atI xs ((1 : Nat) : Int) = _; exact atI_nat (good_num gx (k := 1) (by decide)).1
    have at4 : atI xs 4 = some (.int (numAt xs 4)) := by show atI xs ((4 : Nat) : Int) = _; exact atI_nat (good_num gx (k := 4) (by decide)).1
    have at5 : atI xs 5 = some (.int (numAt xs 5)) := by show atI xs ((5 : Nat) : Int) = _; exact atI_nat (good_num gx (k := 5) (by decide)).1
    have at6 : atI xs 6 = some (.int (numAt xs 6)) := by show atI xs ((6 : Nat) : Int) = _; exact atI_nat (good_num gx (k := 6) (by decide)).1
    have hdl : d < (pcs bs).length := by rw [← spans_len bs 0 0]; exact (List.getElem?_eq_some_iff.mp hsp).1
    obtain ⟨bb, _, _, _, j4, j5, j6, _⟩ := spans_at hsp
    rw [Nat.zero_add] at j4 j5
    obtain ⟨pc, epc⟩ : ∃ x, (pcs bs)[d]? = some x := ⟨_, List.getElem?_eq_getElem hdl⟩
    obtain ⟨tt, g1, g2⟩ := hT.2.2 d pc k s e epc hsp
    obtain ⟨i, rfl⟩ : ∃ i, d = i + 1 := ⟨d - 1, by omega⟩
    obtain ⟨p', ep'⟩ : ∃ x, (pcs bs)[i]? = some x := ⟨_, List.getElem?_eq_getElem (by omega)⟩
    obtain ⟨k', s', e', esp'⟩ : ∃ k s e, (spans 0 0 bs)[i]? = some (k, s, e) := ⟨_, _, _, List.getElem?_eq_getElem (by rw [spans_len]; omega)⟩
    obtain ⟨b', _, kb', _⟩ := spans_at esp'
    rw [Nat.sub_zero] at kb'
    obtain ⟨tu, v1, v2⟩ := hT.2.2 i p' k' s' e' ep' esp'
    obtain ⟨d1, _⟩ := hb b' (List.mem_of_getElem? kb')
    have ke := keep_eq hsp esp' kb'
    have ee : ((i + 1 : Nat) : Int) - 1 = ((i : Nat) : Int) := by omega
    refine ⟨_, (pss_cons (ps_asg (pv 3) (pg_tup rfl (pgs_cons (pg_name (i := 5) scTu.nd rfl (.inl rfl)) (pgs_cons (pg_name (i := 6) scTu.nd rfl (.inl rfl)) (pgs_cons (pg_name (i := 7) scTu.nd rfl (.inl rfl)) (pgs_cons (pg_name (i := 8) scTu.nd rfl (.inl rfl)) pgs_nil))))))
      (pss_cons (ps_set (i := 9) scTu.nd rfl (.inl rfl) (pe_callB (call_max2 rfl) (by rfl) B.max (by decide +kernel) (pa_cons pe_int (pa_cons (pe_op op_sub (pe_ix ix_list (pv 2) pe_int (fun _ _ => rfl)) (pv 6)) pa_nil))))
      (pss_cons (ps_set (i := 10) scTu.nd rfl (.inl rfl) (pe_op op_mul (pv 9) (pv 9)))
      (Evl.pss_cut (ps_if (PW.pt (pw_and (pt_cmpR op_eq (pv 5) (pe_ix ix_tup (pe_ix ix_list (pv 1) (pv 5) (fun _ _ => rfl)) pe_int (fun _ _ => rfl)) (nomark _)) (pw_and1 (pt_val (pe_ix ix_tup (pe_ix ix_list (pv 0) (pe_ix ix_tup (pe_ix ix_list (pv 1) (pe_op op_sub (pv 5) pe_int) (fun _ _ => rfl)) pe_int (fun _ _ => rfl)) (fun _ _ => rfl)) pe_int (fun _ _ => rfl))))))
      (pss_one (ps_set (i := 10) scTu.nd rfl (.inl rfl) (pe_op op_add (pv 10) (pe_ix ix_list (pv 2) pe_int (fun _ _ => rfl)))))
      pss_nil)
      (Evl.pss_cut (ps_if (pt_val (pv 8))
      (pss_one (ps_set (i := 10) scTu.nd rfl (.inl rfl) (pe_op op_add (pv 10) (pe_ix ix_list (pv 2) pe_int (fun _ _ => rfl)))))
      pss_nil)
      (pss_cons (ps_if (PW.pt (pw_and (pt_cmpR op_eq (pv 4) (pe_ix ix_tup (pe_ix ix_list (pv 1) (pv 5) (fun _ _ => rfl)) pe_int (fun _ _ => rfl)) (nomark _)) (pw_and1 (pt_cmpR op_gt (pv 5) (pe_ix ix_tup (pe_ix ix_list (pv 1) (pv 5) (fun _ _ => rfl)) pe_int (fun _ _ => rfl)) (nomark _)))))
      (pss_one (ps_set (i := 10) scTu.nd rfl (.inl rfl) (pe_op op_add (pv 10) (pe_ix ix_list (pv 2) pe_int (fun _ _ => rfl)))))
      pss_nil)
      (pss_one (ps_ret (pv 10))))))))), ?_⟩
    refine ⟨.ref s0, rfl, s0, _, rfl, SqT.of hst, rfl, _, _, rfl, _, _, rfl, _, _, rfl, _, _, rfl, rfl, ?_⟩
    refine ⟨.ref nm, rfl, nm, _, 1, .int (numAt xs 1), rfl, rfl, SqL.of hn, at1, .int us, rfl, _, _, rfl, rfl, _, _, rfl, ?_⟩
    unfold openM at q
    rw [Int.mul_zero, Int.add_zero, ke] at q
    show gName 9 (V.int (posM (numAt xs 1 - us))) _ _ _
    generalize posM (numAt xs 1 - us) = fr0 at q fr ⊢
    refine ⟨.int fr0, rfl, .int fr0, rfl, _, _, rfl, rfl, .inl ⟨by omega, by omega⟩, ?_⟩
    refine ⟨fun σ' H' => σ' = [some (.ref a), some (.ref fa), some (.ref nm), some (.ref s0), some (.int (en : Int)), some (.int ((i + 1 : Nat) : Int)), some (.int us), some (.int (pl : Int)), some (.bl fi), some (.int fr0), some (.int (fr0 * fr0 + if (decide (i + 1 = s) && b'.f) = true then numAt xs 4 else 0))] ∧ H' = H, ?_, ?_⟩
    · refine ⟨.int _, rfl, .ref fa, rfl, .int _, rfl, fa, _, _, .ref tt, rfl, rfl, SqL.of hF, atI_nat g1, tt, _, 2, .int (s : Int), rfl, rfl, SqT.of g2, rfl, rfl, _, rfl, ite2 (fun h => ?_) (fun h => ?_)⟩
      · have hs : i + 1 = s := by have := V.int.inj (of_decide_eq_true h); omega
        refine ⟨.ref a, rfl, .ref fa, rfl, .int _, rfl, _, _, rfl, rfl, fa, _, _, .ref tu, rfl, rfl, SqL.of hF, (by rw [ee]; exact atI_nat v1), tu, _, 1, .int (k' : Int), rfl, rfl, SqT.of v2, rfl, a, _, _, .ref b'.t, rfl, rfl, SqL.of ha, atI_nat (bv_at kb'), b'.t, _, 3, .bl b'.f, rfl, rfl, SqT.of d1, rfl, b'.f, rfl, ite2 (fun h2 => ?_) (fun h2 => ?_)⟩
        · refine ⟨.int _, rfl, .ref nm, rfl, nm, _, 4, .int (numAt xs 4), rfl, rfl, SqL.of hn, at4, _, _, rfl, rfl, ?_, rfl⟩
          rw [decide_eq_true hs, h2]; rfl
        · refine ⟨?_, rfl⟩
          rw [decide_eq_true hs, Bool.eq_false_iff.mpr h2, if_neg (by decide), Int.add_zero]; rfl
      · have hs : ¬ i + 1 = s := fun z => h (decide_eq_true (congrArg V.int (by omega)))
        refine ⟨?_, rfl⟩
        rw [decide_eq_false hs, Bool.false_and, if_neg (by decide), Int.add_zero]; rfl
    rintro σ' H' ⟨rfl, rfl⟩
    generalize (fr0 * fr0 + if (decide (i + 1 = s) && b'.f) = true then numAt xs 4 else 0) = c1 at q ⊢
    refine ⟨fun σ' H2 => σ' = [some (.ref a), some (.ref fa), some (.ref nm), some (.ref s0), some (.int (en : Int)), some (.int ((i + 1 : Nat) : Int)), some (.int us), some (.int (pl : Int)), some (.bl fi), some (.int fr0), some (.int (c1 + if fi = true then numAt xs 5 else 0))] ∧ H2 = H', ?_, ?_⟩
    · refine ⟨.bl fi, rfl, fi, rfl, ite2 (fun h => ?_) (fun h => ?_)⟩
      · refine ⟨.int _, rfl, .ref nm, rfl, nm, _, 5, .int (numAt xs 5), rfl, rfl, SqL.of hn, at5, _, _, rfl, rfl, ?_, rfl⟩
        rw [if_pos h]; rfl
      · refine ⟨?_, rfl⟩
        rw [if_neg h, Int.add_zero]
    rintro σ' H2' ⟨rfl, rfl⟩
    generalize (c1 + if fi = true then numAt xs 5 else 0) = c2 at q ⊢
    refine ⟨.int (en : Int), rfl, .ref fa, rfl, .int _, rfl, fa, _, _, .ref tt, rfl, rfl, SqL.of hF, atI_nat g1, tt, _, 3, .int (e : Int), rfl, rfl, SqT.of g2, rfl, rfl, _, rfl, ite2 (fun h => ?_) (fun h => ?_)⟩
    · have he : e = en := by have := V.int.inj (of_decide_eq_true h); omega
      rw [decide_eq_true he, Bool.true_and] at q
      refine ⟨.int _, rfl, .ref fa, rfl, .int _, rfl, fa, _, _, .ref tt, rfl, rfl, SqL.of hF, atI_nat g1, tt, _, 2, .int (s : Int), rfl, rfl, SqT.of g2, rfl, _, _, rfl, rfl, _, rfl, ite2 (fun h2 => ?_) (fun h2 => ?_)⟩
      · have h2 := of_decide_eq_true h2
        rw [decide_eq_false (by omega), if_pos (by decide)] at q
        exact ⟨.int _, rfl, .ref nm, rfl, nm, _, 6, .int (numAt xs 6), rfl, rfl, SqL.of hn, at6, _, _, rfl, rfl, .int _, rfl, q⟩
      · have h2 : i + 1 = s := by
          refine Decidable.byContradiction fun z => h2 (decide_eq_true (by omega))
        rw [decide_eq_true h2, if_neg (by decide), Int.add_zero] at q
        exact ⟨.int _, rfl, q⟩
    · have he : ¬ e = en := fun z => h (decide_eq_true (congrArg V.int (by omega)))
      rw [decide_eq_false he, Bool.false_and, if_neg (by decide), Int.add_zero] at q
      exact ⟨.int _, rfl, q⟩
end
end K37

set_option maxRecDepth 100000
set_option maxHeartbeats 8000000
namespace K37
open PySem PySem.Spec PyProof.Rows L2
def rLn (K : PySem.W.Frag) : List V → Hp → VK → Prop := fun xs H Q => ∃ x n, xs = [x] ∧ LenV K x H n ∧ Q (.int (n : Int)) H
theorem openM_left (xs : List V) (bs : List Bk) (d : Nat) (us left : Int) (fi wd : Bool) : openM xs bs d us left fi wd = openM xs bs d us 0 fi wd + numAt xs 7 * left := by
  unfold openM
  rw [Int.mul_zero]; omega
theorem many_h : ∀ {ps : List Pc}, (∀ p ∈ ps, NnOk p ∧ 1 ≤ p.h) → (ps.length : Int) ≤ sumH ps
  | [], _ => Int.le_refl _
  | p :: ps, h => by
    have h1 := (h p List.mem_cons_self).2
    have h2 := many_h (ps := ps) fun q hq => h q (List.mem_cons_of_mem _ hq)
    have : sumH (p :: ps) = p.h + sumH ps := by unfold sumH; rw [List.map_cons, List.sum_cons]
    rw [List.length_cons, this, Int.natCast_add]
    show (ps.length : Int) + 1 ≤ _
    omega
theorem natM_ge {ps : List Pc} {ind : Int} (h : ∀ p ∈ ps, NnOk p ∧ 1 ≤ p.h) (hi : 0 ≤ ind) : (ps.length : Int) ≤ natM ps ind := by
  have h1 := many_h h
  have h2 : 0 ≤ sumB ps.dropLast := sum_nn _ fun p hp => bl_nn (h p (List.dropLast_subset _ hp)).1
  have h3 : 0 ≤ (ps.getLast?.map jo).getD 0 := by
    cases e : ps.getLast? with
    | none => exact Int.le_refl _
    | some p => exact jo_nn (h p (List.mem_of_getLast? e)).1
  unfold natM; omega
section
variable {P : Program} {w : World} {K : PySem.W.Frag} {mg : Str → Option Value} {base : Heap} {t3 t4 : Tok} {C CS CN CB FT fi fl fb pp gp pf gf : Addr} {mc u : Value} {di dl db dp df : FuncData}
/-! ### _law_moves -/
def HypL (H : Hp) (a fa nm s0 : Addr) (bs : List Bk) (fs xs : List V) (d : Nat) (us : Int) (pl : Nat) (fi : Bool) : Prop := FlA H a fa bs fs ∧ H nm = some (.lst xs) ∧ Bo.Good xs ∧ Small bs ∧ (∀ p ∈ pcs bs, NnOk p ∧ 1 ≤ p.h) ∧ (∀ b ∈ bs, 0 ≤ b.b) ∧ StT H s0 d us pl fi ∧ d ≤ (pcs bs).length ∧ 0 ≤ us ∧ pl ≤ calN bs d ∧ (figs (pcs bs)).length ≤ 4
def spLmo : Sp := fun vs H Q _ => ∃ (a fa nm s0 : Addr) (bs : List Bk) (fs xs : List V) (d : Nat) (us : Int) (pl : Nat) (fi : Bool), vs = [.ref a, .ref fa, .ref nm, .ref s0] ∧ HypL H a fa nm s0 bs fs xs d us pl fi ∧
  ∀ H' r ts, Same H H' → H r = none → H' r = some (.lst (rv ts)) → ts.length ≤ 10 * (pcs bs).length → MsT H' ts (movesM xs bs d us pl fi) → Q (.ref r) H'
abbrev pLmo : List Str := ["_law_blocks", "_law_flat_here", "_law_nums", "_law_state"]
abbrev nLmo : List Str := ["_law_blocks", "_law_flat_here", "_law_nums", "_law_state", "_law_done", "_law_used", "_law_placed", "_law_first", "_law_out", "_law_heights", "_law_item", "_law_waiting", "_law_end", "_law_need_here", "_law_cost", "_law_opens", "_law_many", "_law_top", "_law_late"]
theorem scLmo : FnScope nLmo pLmo (defScope sLawMoves) := ⟨rfl, rfl, rfl, by decide +kernel, rfl, by decide +kernel, by decide +kernel⟩
theorem ok_lmo {f f_width f_need f_line_cost f_turn : Addr} {fd fd_width fd_need fd_line_cost fd_turn : FuncData} (B : Blt mg) (F : Fun K "_law_moves" "_law_moves" sLawMoves f fd)
    (F_width : Fun K "_law_width" "_law_width" sWidthL f_width fd_width) (b_width : Binds K fd_width pWi []) (g_width : mg "_law_width" = some (.ref f_width))
    (F_need : Fun K "_law_need" "_law_need" sNeed f_need fd_need) (b_need : Binds K fd_need pWi []) (g_need : mg "_law_need" = some (.ref f_need))
    (F_line_cost : Fun K "_law_line_cost" "_law_line_cost" sLineCostL f_line_cost fd_line_cost) (b_line_cost : Binds K fd_line_cost pLcl []) (g_line_cost : mg "_law_line_cost" = some (.ref f_line_cost))
    (F_turn : Fun K "_law_turn" "_law_turn" sTurn f_turn fd_turn) (b_turn : Binds K fd_turn pTu []) (g_turn : mg "_law_turn" = some (.ref f_turn)) : FnOk P w K mg base CX0 3 f fd pLmo spLmo := by
  have G_width : FnOk P w K mg base CX0 1 f_width fd_width pWi spWi := ok_wid B F_width
  have G_need : FnOk P w K mg base CX0 1 f_need fd_need pWi spNe := ok_ne B F_need
  have G_line_cost : FnOk P w K mg base CX0 2 f_line_cost fd_line_cost pLcl spLcl := ok_lcl B F_line_cost F_width b_width g_width
  have G_turn : FnOk P w K mg base CX0 1 f_turn fd_turn pTu spTu := ok_tu B F_turn
  refine F.ok scLmo (fun vs H Q E h => ?_) (fun cdv A0 outer s H vs Q E hr h => ?_)
  · obtain ⟨a, fa, nm, s0, bs, fs, xs, d, us, pl, fi, rfl, _⟩ := h; rfl
  · obtain ⟨a, fa, nm, s0, bs, fs, xs, d, us, pl, fi, rfl, ⟨fl, hn, gx, hsm, hnn, hb0, hst, hdl, hus, hpl, hf4⟩, q⟩ := h
    obtain ⟨ha, hb, hF, hT⟩ := id fl
    have hr1 : Room 1 _ := hr.mono (by decide)
    have hs2 := hsm.2
    have hfsl : fs.length = (pcs bs).length := hT.1
    have hcl := figs_take_le bs d
    have at0 : atI xs 0 = some (.int (numAt xs 0)) := by show atI xs ((0 : Nat) : Int) = _; exact atI_nat (good_num gx (k := 0) (by decide)).1
    have at1 : atI xs 1 = some (.int (numAt xs 1)) := by show atI xs ((1 : Nat) : Int) = _; exact atI_nat (good_num gx (k := 1) (by decide)).1
    have at7 : atI xs 7 = some (.int (numAt xs 7)) := by show atI xs ((7 : Nat) : Int) = _; exact atI_nat (good_num gx (k := 7) (by decide)).1
    obtain ⟨_, r1, r2⟩ := good_num gx (k := 0) (by decide)
    have r1 : 1 ≤ numAt xs 0 := r1
    have r2 : numAt xs 0 ≤ 2000 := r2
    obtain ⟨_, w1, w2⟩ := good_num gx (k := 7) (by decide)
    have w1 : 0 ≤ numAt xs 7 := w1
    have w2 : numAt xs 7 ≤ 2000 := w2
    refine ⟨_, (pss_cons (ps_asg (pv 3) (pg_tup rfl (pgs_cons (pg_name (i := 4) scLmo.nd rfl (.inl rfl)) (pgs_cons (pg_name (i := 5) scLmo.nd rfl (.inl rfl)) (pgs_cons (pg_name (i := 6) scLmo.nd rfl (.inl rfl)) (pgs_cons (pg_name (i := 7) scLmo.nd rfl (.inl rfl)) pgs_nil))))))
      (pss_cons (ps_set (i := 8) scLmo.nd rfl (.inl rfl) (pe_lst pa_nil))
      (pss_cons (ps_if (pt_cmpR op_eq (pv 4) (pe_callB call_len (by rfl) B.len PySem.boot_len (pa_cons (pv 1) pa_nil)) (nomark _))
      (pss_one (ps_ret (pv 8)))
      pss_nil)
      (pss_cons (ps_set (i := 9) scLmo.nd rfl (.inl rfl) (pe_lst pa_nil))
      (pss_cons (ps_for (PassesOwn.never) rfl (pi_list (pv 1)) (pg_name (i := 10) scLmo.nd rfl (.inl rfl))
      (pss_one (ps_set (i := 9) scLmo.nd rfl (.inl rfl) (pe_op op_cat (pv 9) (pe_callTy call_list_of (by rfl) B.list (by decide +kernel) (pa_cons (pe_ix ix_tup (pe_ix ix_tup (pv 10) pe_int (fun _ _ => rfl)) pe_int (fun _ _ => rfl)) pa_nil))))))
      (pss_cons (ps_set (i := 11) scLmo.nd rfl (.inl rfl) (pe_op op_sub (pe_callB (cr_sum rfl) (by rfl) B.sum (by decide +kernel) (pa_cons (pe_lc (own := [("_law_item", 10)]) (g := gName 10) (tt := tYes) rfl scLmo.nd (pi_list (pe_slice sl_list (pv 1) po_none (po_some (pv 4)))) (blkOk_by (N := nLmo) (sc := defScope sLawMoves) (by decide +kernel)) (fun _ _ _ _ _ => (pg_name (i := 10) scLmo.nd rfl (.inl rfl))) (fun _ _ _ _ _ => pts_nil) (fun _ _ _ _ _ => (pe_callB (show CallR _ (.builtin "len") (rLn K) from call_len) (by rfl) B.len PySem.boot_len (pa_cons (pe_ix (show IxR _ (rIxT K) from ix_tup) (pe_ix (show IxR _ (rIxT K) from ix_tup) (pv 10) pe_int (fun _ _ => rfl)) pe_int (fun _ _ => rfl)) pa_nil)))) pa_nil)) (pv 6)))
      (pss_cons (ps_for (PassesOwn.never) rfl (pi_range2 (by rfl) B.range (pa_cons (pe_op op_add (pv 4) pe_int) (pa_cons (pe_op op_add (pe_callB (call_min2 rfl) (by rfl) B.min (by decide +kernel) (pa_cons (pe_ix ix_tup (pe_ix ix_list (pv 1) (pv 4) (fun _ _ => rfl)) pe_int (fun _ _ => rfl)) (pa_cons (pe_op op_add (pv 4) (pe_ix ix_list (pv 2) pe_int (fun _ _ => rfl))) pa_nil))) pe_int) pa_nil))) (pg_name (i := 12) scLmo.nd rfl (.inl rfl))
      (Evl.pss_cut (RV.ps_ifC (PW.pt (pw_and (pt_cmpR op_gt (pv 12) (pe_op op_add (pv 4) pe_int) (nomark _)) (pw_and1 (pt_cmpR op_gt (pe_call G_width hr1 (by rfl) g_width F_width.kp b_width .nil pass0 (pa_cons (pv 0) (pa_cons (pv 1) (pa_cons (pv 4) (pa_cons (pv 12) pa_nil))))) (pe_ix ix_list (pv 2) pe_int (fun _ _ => rfl)) (nomark _)))))
       (pss_one ps_continue)
       pss_nil)
       (pss_cons (ps_set (i := 13) scLmo.nd rfl (.inl rfl) (pe_call G_need hr1 (by rfl) g_need F_need.kp b_need .nil pass0 (pa_cons (pv 0) (pa_cons (pv 1) (pa_cons (pv 4) (pa_cons (pv 12) pa_nil))))))
       (pss_cons (ps_set (i := 14) scLmo.nd rfl (.inl rfl) (pe_call G_line_cost hr (by rfl) g_line_cost F_line_cost.kp b_line_cost .nil pass0 (pa_cons (pv 0) (pa_cons (pv 1) (pa_cons (pv 2) (pa_cons (pv 4) (pa_cons (pv 12) pa_nil)))))))
       (Evl.pss_cut (ps_set (i := 15) scLmo.nd rfl (.inl rfl) (pe_and (pe_cmpR op_eq (pv 4) (pe_ix ix_tup (pe_ix ix_list (pv 1) (pv 4) (fun _ _ => rfl)) pe_int (fun _ _ => rfl)) (nomark _)) (pe_one (pe_cmpR op_lt (pv 12) (pe_ix ix_tup (pe_ix ix_list (pv 1) (pv 4) (fun _ _ => rfl)) pe_int (fun _ _ => rfl)) (nomark _)))))
       (pss_cons (ps_if (pt_cmpR op_eq (pv 4) pe_int (nomark _))
       (pss_cons (ps_expr (pe_bm PySem.F.plainAttrs_list PySem.F.slot_list_append PySem.F.type_list_append mt_append (pv 8) (pa_cons (pe_tup (pa_cons (pe_tup (pa_cons (pv 12) (pa_cons pe_int pa_nil))) (pa_cons (pv 14) (pa_cons (pe_tup (pa_cons (pv 12) (pa_cons (pv 13) (pa_cons pe_int (pa_cons (pv 15) pa_nil))))) pa_nil)))) pa_nil)))
        (pss_one ps_continue))
       pss_nil)
       (Evl.pss_cut (ps_if (pt_cmpR op_le (pe_op op_add (pv 5) (pv 13)) (pe_ix ix_list (pv 2) pe_int (fun _ _ => rfl)) (nomark _))
       (pss_one (ps_expr (pe_bm PySem.F.plainAttrs_list PySem.F.slot_list_append PySem.F.type_list_append mt_append (pv 8) (pa_cons (pe_tup (pa_cons (pe_tup (pa_cons (pv 12) (pa_cons pe_non pa_nil))) (pa_cons (pv 14) (pa_cons (pe_tup (pa_cons (pv 12) (pa_cons (pe_op op_add (pv 5) (pv 13)) (pa_cons (pv 6) (pa_cons (pv 15) pa_nil))))) pa_nil)))) pa_nil))))
       pss_nil)
       (pss_cons (ps_set (i := 14) scLmo.nd rfl (.inl rfl) (pe_op op_add (pv 14) (pe_call G_turn hr1 (by rfl) g_turn F_turn.kp b_turn .nil pass0 (pa_cons (pv 0) (pa_cons (pv 1) (pa_cons (pv 2) (pa_cons (pv 3) (pa_cons (pv 12) pa_nil))))))))
       (pss_one (ps_for (PassesOwn.never) rfl (pi_range1 (by rfl) B.range (pa_cons (pe_op op_add (pv 11) pe_int) pa_nil)) (pg_name (i := 16) scLmo.nd rfl (.inl rfl))
       (pss_cons (ps_set (i := 17) scLmo.nd rfl (.inl rfl) (pe_op op_add (pv 13) (pe_callB (cr_sum rfl) (by rfl) B.sum (by decide +kernel) (pa_cons (pe_slice sl_list (pv 9) (po_some (pv 6)) (po_some (pe_op op_add (pv 6) (pv 16)))) pa_nil))))
        (pss_one (RV.ps_ifC (PW.pt (pw_or (pt_cmpR op_eq (pv 16) pe_int (nomark _)) (pw_or1 (pt_cmpR op_le (pv 17) (pe_ix ix_list (pv 2) pe_int (fun _ _ => rfl)) (nomark _)))))
        (pss_cons (ps_set (i := 18) scLmo.nd rfl (.inl rfl) (pe_op op_mul (pe_ix ix_list (pv 2) pe_int (fun _ _ => rfl)) (pe_op op_sub (pv 11) (pv 16))))
         (pss_one (ps_expr (pe_bm PySem.F.plainAttrs_list PySem.F.slot_list_append PySem.F.type_list_append mt_append (pv 8) (pa_cons (pe_tup (pa_cons (pe_tup (pa_cons (pv 12) (pa_cons (pv 16) pa_nil))) (pa_cons (pe_op op_add (pv 14) (pv 18)) (pa_cons (pe_tup (pa_cons (pv 12) (pa_cons (pv 17) (pa_cons (pe_op op_add (pv 6) (pv 16)) (pa_cons (pv 15) pa_nil))))) pa_nil)))) pa_nil)))))
        pss_nil)))))))))))))
      (pss_one (ps_ret (pv 8)))))))))), ?_⟩
    refine ⟨.ref s0, rfl, s0, _, rfl, SqT.of hst, rfl, _, _, rfl, _, _, rfl, _, _, rfl, _, _, rfl, rfl, ?_⟩
    refine ⟨Nat.zero_le _, fun R nR => ?_⟩
    have s1 := same_new nR (o := .lst [])
    have hR : (upd H R (.lst [])) R = some (.lst (rv [])) := upd_same
    generalize upd H R (.lst []) = H1 at s1 hR ⊢
    refine ⟨.int (d : Int), rfl, .ref fa, rfl, .ref fa, fs.length, rfl, .inl ⟨_, SqL.of (s1 _ _ hF), rfl⟩, rfl, _, rfl, ite2 (fun h => ?_) (fun h => ?_)⟩
    · have hd : d = (pcs bs).length := by have := V.int.inj (of_decide_eq_true h); omega
      refine ⟨.ref R, rfl, q H1 R [] s1 nR hR (Nat.zero_le _) ?_⟩
      rw [movesM_end (by omega)]; exact MsT.nil _
    have hd : d < (pcs bs).length := by
      refine Decidable.byContradiction fun z => h (decide_eq_true (congrArg V.int (by omega)))
    -- the figures
    refine ⟨Nat.zero_le _, fun h0 nh0 => ?_⟩
    have s2 := same_new nh0 (o := .lst [])
    have hh0 : (upd H1 h0 (.lst [])) h0 = some (.lst ([] : List V)) := upd_same
    generalize upd H1 h0 (.lst []) = H2 at s2 hh0 ⊢
    have hR2 := s2 _ _ hR
    have nRh : R ≠ h0 := ne_of_none hR nh0
    refine ⟨.ref fa, rfl, fa, rfl, ⟨_, SqL.of (s2 _ _ (s1 _ _ hF))⟩, for_list (K := K) (a := fa) (xs := fs) (fun i σ H' => ∃ (hh : Addr) (y10 : Option V), σ = [some (.ref a), some (.ref fa), some (.ref nm), some (.ref s0), some (.int (d : Int)), some (.int us), some (.int (pl : Int)), some (.bl fi), some (.ref R), some (.ref hh), y10, none, none, none, none, none, none, none, none] ∧ Same H2 H' ∧ hh ≠ R ∧ H' hh = some (.lst ((figs ((pcs bs).take i)).map V.int))) ⟨h0, none, rfl, Same.refl _, nRh.symm, hh0⟩ (fun i σ H' _ ⟨_, _, _, sm, _⟩ => SqL.of (sm _ _ (s2 _ _ (s1 _ _ hF)))) ?_ ?_⟩
    · rintro i x σ H' hi ⟨hh, y10, rfl, sm, hhR, hhh⟩
      have hil := (List.getElem?_eq_some_iff.mp hi).1
      obtain ⟨p, ep⟩ : ∃ x, (pcs bs)[i]? = some x := ⟨_, List.getElem?_eq_getElem (by omega)⟩
      obtain ⟨k', s', e', esp⟩ : ∃ k s e, (spans 0 0 bs)[i]? = some (k, s, e) := ⟨_, _, _, List.getElem?_eq_getElem (by rw [spans_len]; omega)⟩
      obtain ⟨u, u1, u2⟩ := hT.2.2 i p k' s' e' ep esp
      rw [hi] at u1; cases u1
      have s0' := s1.trans (s2.trans sm)
      obtain ⟨c1, _, _, _, _, c6, _⟩ := (hb.kp (Kp.of s0')).pcs p (List.mem_of_getElem? ep)
      refine ⟨.ref hh, rfl, .ref u, rfl, u, _, 0, .ref p.t, rfl, rfl, SqT.of (s0' _ _ u2), rfl, p.t, _, 3, .ref p.ca, rfl, rfl, SqT.of c1, rfl, p.ca, _, rfl, .inr (SqT.of c6), fun z nz => ?_⟩
      have s3 := same_new nz (o := .lst (p.calls.map V.int))
      have hz : (upd H' z (.lst (p.calls.map V.int))) z = some (.lst (p.calls.map V.int)) := upd_same
      generalize upd H' z (.lst (p.calls.map V.int)) = H3 at s3 hz ⊢
      have hcl2 : (figs ((pcs bs).take i)).length ≤ 4 := Nat.le_trans (figs_take_le bs i) hf4
      have hpc : p.calls.length ≤ 4 := by
        have : (figs ((pcs bs).take (i + 1))).length ≤ 4 := Nat.le_trans (figs_take_le bs (i + 1)) hf4
        rw [List.take_add_one, ep] at this
        show p.calls.length ≤ 4
        have e2 : (figs ((pcs bs).take i ++ [p])).length ≤ 4 := this
        rw [figs_snoc, List.length_append] at e2; omega
      refine ⟨hh, z, _, _, rfl, rfl, s3 _ _ hhh, hz, by rw [List.length_map, List.length_map, sizeLine_eq]; omega, fun r nr => ?_⟩
      refine ⟨r, some (.ref u), rfl, sm.trans (s3.trans (same_new nr)), (ne_of_none (s3 _ _ (sm _ _ hR2)) nr).symm, ?_⟩
      rw [upd_same, List.take_add_one, ep]
      show _ = some (HO.lst ((figs ((pcs bs).take i ++ [p])).map V.int))
      rw [figs_snoc, List.map_append]
    rintro σ H3 ⟨hh, y10, rfl, s3, hhR, hhh⟩
    rw [hfsl, List.take_length] at hhh
    have s03 := s1.trans (s2.trans s3)
    have hR3 := s3 _ _ hR2
    -- what waits
    refine ⟨.ref fa, rfl, .int (d : Int), rfl, (d : Int), rfl, fa, _, rfl, SqL.of (s03 _ _ hF), fun z nz => ?_⟩
    rw [cutV_to _ (by omega)]
    have s4 := same_new nz (o := .lst (fs.take d))
    have hz : (upd H3 z (.lst (fs.take d))) z = some (.lst (fs.take d)) := upd_same
    generalize upd H3 z (.lst (fs.take d)) = H4 at s4 hz ⊢
    have s04 := s03.trans s4
    refine ⟨z, rfl, ⟨_, SqL.of hz⟩, fun D hD => ?_⟩
    refine lc_list (K := K) (a := z) (xs := fs.take d) (fun i H' => Same H4 H' ∧ ∃ cs : List Int, H' D = some (.lst (cs.map V.int)) ∧ cs.length = i ∧ cs.sum = ((figs ((pcs bs).take i)).length : Nat)) ⟨same_new hD, [], upd_same, rfl, rfl⟩ (fun i H' _ ⟨s, _⟩ => SqL.of (s _ _ hz)) ?_ ?_
    · rintro i x H' hi ⟨sm, cs, hc, hcl', hcs⟩
      have hil := (List.getElem?_eq_some_iff.mp hi).1
      rw [List.length_take] at hil
      rw [List.getElem?_take_of_lt (by omega)] at hi
      obtain ⟨p, ep⟩ : ∃ x, (pcs bs)[i]? = some x := ⟨_, List.getElem?_eq_getElem (by omega)⟩
      obtain ⟨k', s', e', esp⟩ : ∃ k s e, (spans 0 0 bs)[i]? = some (k, s, e) := ⟨_, _, _, List.getElem?_eq_getElem (by rw [spans_len]; omega)⟩
      obtain ⟨u, u1, u2⟩ := hT.2.2 i p k' s' e' ep esp
      rw [hi] at u1; cases u1
      have s0' := s04.trans sm
      obtain ⟨c1, _, _, _, _, c6, _⟩ := (hb.kp (Kp.of s0')).pcs p (List.mem_of_getElem? ep)
      refine ⟨rfl, .ref u, rfl, u, _, 0, .ref p.t, rfl, rfl, SqT.of (s0' _ _ u2), rfl, p.t, _, 3, .ref p.ca, rfl, rfl, SqT.of c1, rfl, .ref p.ca, p.calls.length, rfl, .inr ⟨_, SqT.of c6, (List.length_map _).symm⟩, _, hc, (by rw [List.length_map]; exact small1000 (by omega)), same_at sm hD, cs ++ [(p.calls.length : Int)], by rw [upd_same, map_snoc], by rw [List.length_append, hcl']; rfl, ?_⟩
      rw [sum_snoc, hcs, List.take_add_one, ep]
      show _ = (((figs ((pcs bs).take i ++ [p])).length : Nat) : Int)
      rw [figs_snoc, List.length_append, Int.natCast_add]
    rintro H5 ⟨s5, cs, hc, hcl', hcs⟩
    have hcs : cs.sum = ((calN bs d : Nat) : Int) := by
      rw [hcs, List.length_take, Nat.min_eq_left (by omega)]; rfl
    have s05 := s04.trans s5
    have hR5 := s5 _ _ (s4 _ _ hR3)
    have hh5 := s5 _ _ (s4 _ _ hhh)
    have ew : ((calN bs d : Nat) : Int) - (pl : Int) = ((calN bs d - pl : Nat) : Int) := by omega
    refine ⟨D, cs, rfl, SqL.of hc, .int (pl : Int), rfl, _, _, rfl, rfl, ?_⟩
    rw [hcs]
    show gName 11 (V.int (((calN bs d : Nat) : Int) - (pl : Int))) _ _ _
    rw [ew]
    obtain ⟨wt, hwt⟩ : ∃ n, n = calN bs d - pl := ⟨_, rfl⟩
    rw [← hwt]
    obtain ⟨k, s, e, hsp⟩ : ∃ k s e, (spans 0 0 bs)[d]? = some (k, s, e) := ⟨_, _, _, List.getElem?_eq_getElem (by rw [spans_len]; omega)⟩
    obtain ⟨b, j1, j2, j3, j4, j5, j6, j7⟩ := spans_at hsp
    rw [Nat.sub_zero] at j2
    rw [Nat.zero_add] at j4 j5 j6
    obtain ⟨pd, epd⟩ : ∃ x, (pcs bs)[d]? = some x := ⟨_, List.getElem?_eq_getElem hd⟩
    obtain ⟨tt, g1, g2⟩ := hT.2.2 d pd k s e epd hsp
    have bb0 := hb0 b (List.mem_of_getElem? j2)
    have ind0 : 0 ≤ indM d s b := by unfold indM; split; exact bb0; exact Int.le_refl _
    rw [movesM_at hsp j2, ← hwt] at q
    -- how far lines go
    have wide : ∀ j, (numAt xs 0).toNat ≤ j → j < e - d → okL (numAt xs 0) bs d s b (d + 1 + j) = false := fun j h1 h2 => by
      unfold okL
      rw [decide_eq_false (by omega), Bool.false_or]
      refine decide_eq_false fun z => ?_
      have hl : (segM bs d (d + 1 + j)).length = j + 1 := by unfold segM; rw [List.length_take, List.length_drop]; omega
      have := natM_ge (ps := segM bs d (d + 1 + j)) (ind := indM d s b) (fun x hx => hnn x (seg_mem hx)) ind0
      rw [hl] at this
      omega
    obtain ⟨n, hn1, hn2, hn3⟩ : ∃ n : Nat, n ≤ e - d ∧ endsM (numAt xs 0) bs d s b (e - d) = endsM (numAt xs 0) bs d s b n ∧ (if (d : Int) + numAt xs 0 < (e : Int) then (d : Int) + numAt xs 0 else (e : Int)) = ((d + n : Nat) : Int) := by
      by_cases hc : (d : Int) + numAt xs 0 < (e : Int)
      · exact ⟨(numAt xs 0).toNat, by omega, endsM_stop (by omega) wide, by rw [if_pos hc]; omega⟩
      · exact ⟨e - d, Nat.le_refl _, rfl, by rw [if_neg hc]; omega⟩
    rw [hn2] at q
    refine ⟨.int (d : Int), rfl, _, _, rfl, rfl, .ref fa, rfl, .int (d : Int), rfl, fa, _, _, .ref tt, rfl, rfl, SqL.of (s05 _ _ hF), atI_nat g1, tt, _, 3, .int (e : Int), rfl, rfl, SqT.of (s05 _ _ g2), rfl, .int (d : Int), rfl, .ref nm, rfl, nm, _, 0, .int (numAt xs 0), rfl, rfl, SqL.of (s05 _ _ hn), at0, _, _, rfl, rfl, _, _, rfl, _, _, rfl, rfl, (d : Int) + 1, (d : Int) + (n : Int) + 1, ?_, ⟨by omega, by omega, by omega, by omega⟩, ?_⟩
    · show [V.int ((d : Int) + 1), V.int ((if (d : Int) + numAt xs 0 < (e : Int) then (d : Int) + numAt xs 0 else (e : Int)) + 1)] = _
      rw [hn3, Int.natCast_add]
    have eN : ((d : Int) + (n : Int) + 1 - ((d : Int) + 1)).toNat = n := by omega
    rw [eN]
    refine for_range (lo := (d : Int) + 1) (n := n) (fun i σ H' => ∃ (y10 y12 y13 y14 y15 y16 y17 y18 : Option V) (ts : List Addr), σ = [some (.ref a), some (.ref fa), some (.ref nm), some (.ref s0), some (.int (d : Int)), some (.int us), some (.int (pl : Int)), some (.bl fi), some (.ref R), some (.ref hh), y10, some (.int (wt : Int)), y12, y13, y14, y15, y16, y17, y18] ∧ Same H H' ∧ H' R = some (.lst (rv ts)) ∧ H' hh = some (.lst ((figs (pcs bs)).map V.int)) ∧ ts.length ≤ 10 * i ∧ MsT H' ts ((endsM (numAt xs 0) bs d s b i).flatMap fun en => withM xs bs d us pl fi (lnM xs bs d s e b en) (wt + 1))) ⟨_, none, none, none, none, none, none, none, [], rfl, s05, hR5, hh5, Nat.le_refl _, MsT.nil _⟩ ?_ ?_
    · rintro i σ H3 hi ⟨y10, y12, y13, y14, y15, y16, y17, y18, ts, rfl, s3, hR3, hh3, htl, hms⟩
      have e0 : (d : Int) + 1 + (i : Int) = ((d + 1 + i : Nat) : Int) := by omega
      rw [e0]
      obtain ⟨en, hen⟩ : ∃ m, m = d + 1 + i := ⟨_, rfl⟩
      rw [← hen]
      have L : LineAt bs d en k s e b := ⟨hsm, fun x hx => (hnn x hx).1.1, hsp, j7 (en - 1) (by omega) (by omega), j2, by omega, by omega⟩
      have W0 := natM_nn (ps := segM bs d en) (ind := indM d s b) (fun x hx => (hnn x (seg_mem hx)).1) ind0
      have okE : okL (numAt xs 0) bs d s b en = decide (i = 0 ∨ natM (segM bs d en) (indM d s b) ≤ numAt xs 0) := by
        unfold okL
        rw [Bool.eq_iff_iff, Bool.or_eq_true, decide_eq_true_iff, decide_eq_true_iff, decide_eq_true_iff]
        constructor
        · rintro (h | h)
          · exact .inl (by omega)
          · exact .inr h
        · rintro (h | h)
          · exact .inl (by omega)
          · exact .inr h
      have fl3 := fl.same s3
      refine ⟨fun σ' H' => σ' = [some (.ref a), some (.ref fa), some (.ref nm), some (.ref s0), some (.int (d : Int)), some (.int us), some (.int (pl : Int)), some (.bl fi), some (.ref R), some (.ref hh), y10, some (.int (wt : Int)), some (.int (en : Int)), y13, y14, y15, y16, y17, y18] ∧ H' = H3 ∧ okL (numAt xs 0) bs d s b en = true, ?_, ?_⟩
      · refine ⟨fun c H' => c = (!okL (numAt xs 0) bs d s b en) ∧ H' = H3, ?_, ?_, ?_⟩
        · rw [okE]
          refine ⟨.int (en : Int), rfl, .int (d : Int), rfl, _, _, rfl, rfl, _, _, rfl, rfl, _, rfl, ite2 (fun h => ?_) (fun h => ?_)⟩
          · have h : i ≠ 0 := by have := of_decide_eq_true h; omega
            refine ⟨.ref a, rfl, .ref fa, rfl, .int (d : Int), rfl, .int (en : Int), rfl, a, fa, bs, fs, d, en, k, s, e, b, rfl, fl3.1, fl3.2.1, fl3.2.2.1, fl3.2.2.2, L, .ref nm, rfl, nm, _, 0, .int (numAt xs 0), rfl, rfl, SqL.of (s3 _ _ hn), at0, _, _, rfl, rfl, _, rfl, ?_, rfl⟩
            rw [Bool.eq_iff_iff, Bool.not_eq_true', decide_eq_true_iff, decide_eq_false_iff_not]
            constructor
            · rintro z (y | y)
              · exact h y
              · omega
            · intro z; refine Decidable.byContradiction fun y => z (.inr (by omega))
          · have h : i = 0 := Decidable.byContradiction fun z => h (decide_eq_true (by omega))
            refine ⟨?_, rfl⟩
            rw [decide_eq_true (.inl h)]; rfl
        · rintro H' ⟨h, rfl⟩
          refine ⟨y10, some (.int (en : Int)), y13, y14, y15, y16, y17, y18, ts, rfl, s3, hR3, hh3, by omega, ?_⟩
          have hf : okL (numAt xs 0) bs d s b en = false := by
            cases hk : okL (numAt xs 0) bs d s b en with
            | false => rfl
            | true => rw [hk] at h; cases h
          rw [endsM_succ, ← hen, hf, if_neg (by decide), List.append_nil]; exact hms
        · rintro H' ⟨h, rfl⟩
          refine ⟨rfl, rfl, ?_⟩
          cases hk : okL (numAt xs 0) bs d s b en with
          | true => rfl
          | false => rw [hk] at h; cases h
      rintro σ' H4' ⟨rfl, rfl, hok⟩
      have fini : ∀ (H' : Hp) (ts' : List Addr), MsT H' ts' (((endsM (numAt xs 0) bs d s b i).flatMap fun en => withM xs bs d us pl fi (lnM xs bs d s e b en) (wt + 1)) ++ withM xs bs d us pl fi (lnM xs bs d s e b en) (wt + 1)) → MsT H' ts' ((endsM (numAt xs 0) bs d s b (i + 1)).flatMap fun en => withM xs bs d us pl fi (lnM xs bs d s e b en) (wt + 1)) := fun H' ts' h => by
        rw [endsM_succ, ← hen, if_pos hok, List.flatMap_append, List.flatMap_singleton]; exact h
      refine ⟨.ref a, rfl, .ref fa, rfl, .int (d : Int), rfl, .int (en : Int), rfl, a, fa, bs, fs, d, en, k, s, e, b, rfl, fl3, L, fun H6 s6' => ?_⟩
      have s6 := s3.trans s6'
      have hR6 := s6' _ _ hR3
      have hh6 := s6' _ _ hh3
      have hms6 := hms.kp (Kp.of s6')
      have hF6 := s6 _ _ hF
      refine ⟨.ref a, rfl, .ref fa, rfl, .ref nm, rfl, .int (d : Int), rfl, .int (en : Int), rfl, a, fa, nm, bs, fs, xs, d, en, k, s, e, b, rfl, fl.same s6, s6 _ _ hn, gx, L, W0, by omega, ?_⟩
      obtain ⟨x, hx⟩ : ∃ x, x = lnM xs bs d s e b en := ⟨_, rfl⟩
      have hco : priceM (numAt xs 0) (numAt xs 3) (numAt xs 2) (natM (segM bs d en) (indM d s b)) (decide (e = en)) (hjM bs en) = x.co := by rw [hx]; rfl
      have hne : needM bs d en s b = x.ne := by rw [hx]; rfl
      have hxe : x.en = en := by rw [hx]; rfl
      have ef : x.fs = decide (d = s) := by rw [hx]; rfl
      have el : x.ls = decide (e = en) := by rw [hx]; rfl
      rw [hco, hne]
      rw [← hx] at fini
      refine ⟨fun σ' H' => σ' = [some (.ref a), some (.ref fa), some (.ref nm), some (.ref s0), some (.int (d : Int)), some (.int us), some (.int (pl : Int)), some (.bl fi), some (.ref R), some (.ref hh), y10, some (.int (wt : Int)), some (.int (en : Int)), some (.int x.ne), some (.int x.co), some (.bl (x.fs && !x.ls)), y16, y17, y18] ∧ H' = H6, ?_, ?_⟩
      · refine ⟨.int (d : Int), rfl, .ref fa, rfl, .int (d : Int), rfl, fa, _, _, .ref tt, rfl, rfl, SqL.of hF6, atI_nat g1, tt, _, 2, .int (s : Int), rfl, rfl, SqT.of (s6 _ _ g2), rfl, rfl, _, rfl, ite2 (fun h => ?_) (fun h => ?_)⟩
        · have hs : d = s := by have := V.int.inj (of_decide_eq_true h); omega
          refine ⟨.int (en : Int), rfl, .ref fa, rfl, .int (d : Int), rfl, fa, _, _, .ref tt, rfl, rfl, SqL.of hF6, atI_nat g1, tt, _, 3, .int (e : Int), rfl, rfl, SqT.of (s6 _ _ g2), rfl, _, _, rfl, rfl, ?_, rfl⟩
          have d9 : (!decide (e = en)) = decide ((en : Int) < (e : Int)) := by
            rw [Bool.eq_iff_iff, Bool.not_eq_true', decide_eq_true_iff, decide_eq_false_iff_not]
            constructor
            · intro z; omega
            · intro z y; omega
          rw [ef, el, decide_eq_true hs, Bool.true_and, d9]; rfl
        · have hs : ¬ d = s := fun z => h (decide_eq_true (congrArg V.int (by omega)))
          refine ⟨?_, rfl⟩
          rw [ef, decide_eq_false hs, Bool.false_and]; rfl
      rintro σ' H7 ⟨rfl, rfl⟩
      refine ⟨.int (d : Int), rfl, rfl, _, rfl, ite2 (fun h => ?_) (fun h => ?_)⟩
      · have hd0 : d = 0 := by have := V.int.inj (of_decide_eq_true h); omega
        have hc0 : calN bs d = 0 := by rw [hd0]; rfl
        have hp0 : pl = 0 := by omega
        have hw0 : wt = 0 := by omega
        have ew0 : withM xs bs d us pl fi x (wt + 1) = [⟨en, some 0, x.co, x.ne, 0, x.fs && !x.ls⟩] := by
          unfold withM preM
          rw [if_neg (by omega), hw0, List.nil_append, hp0]
          show [moJ xs bs d us 0 fi x 0] = _
          unfold moJ priceJ
          rw [if_neg (by omega), Int.add_zero, hxe]
          show [(⟨en, some 0, x.co, 0 + x.ne, 0, _⟩ : Mo)] = _
          rw [Int.zero_add]
        refine ⟨.ref R, rfl, .inl ⟨rfl, _, SqL.of hR6⟩, .int (en : Int), rfl, by show 2 ≤ sizeLine; decide, fun tip nti => ?_⟩
        have sap := same_new nti (o := .tup [.int (en : Int), .int 0])
        have htip : (upd H7 tip (.tup [.int (en : Int), .int 0])) tip = some (.tup [.int (en : Int), .int 0]) := upd_same
        generalize upd H7 tip (.tup [.int (en : Int), .int 0]) = Ap1 at sap htip ⊢
        refine ⟨.int x.co, rfl, .int (en : Int), rfl, .int x.ne, rfl, .bl _, rfl, by show 4 ≤ sizeLine; decide, fun tup ntu => ?_⟩
        have sbp := same_new ntu (o := .tup [.int (en : Int), .int x.ne, .int 0, .bl (x.fs && !x.ls)])
        have htup : (upd Ap1 tup (.tup [.int (en : Int), .int x.ne, .int 0, .bl (x.fs && !x.ls)])) tup = some (.tup [.int (en : Int), .int x.ne, .int 0, .bl (x.fs && !x.ls)]) := upd_same
        generalize upd Ap1 tup (.tup [.int (en : Int), .int x.ne, .int 0, .bl (x.fs && !x.ls)]) = Ap2 at sbp htup ⊢
        refine ⟨by show 3 ≤ sizeLine; decide, fun tp nt => ?_⟩
        have scp := same_new nt (o := .tup [.ref tip, .int x.co, .ref tup])
        have htp : (upd Ap2 tp (.tup [.ref tip, .int x.co, .ref tup])) tp = some (.tup [.ref tip, .int x.co, .ref tup]) := upd_same
        generalize upd Ap2 tp (.tup [.ref tip, .int x.co, .ref tup]) = Ap3 at scp htp ⊢
        have svp := sap.trans (sbp.trans scp)
        have hRp := svp _ _ hR6
        have kp : Kp Ap3 (upd Ap3 R (.lst (rv ts ++ [.ref tp]))) := Kp.but hRp (fun z => z) upd_but
        refine ⟨R, _, .ref tp, rfl, rfl, hRp, (by rw [rv_len]; exact Nat.lt_of_le_of_lt htl (by rw [sizeLine_eq]; omega)), y10, _, _, _, _, y16, y17, y18, ts ++ [tp], rfl, same_at (s6.trans svp) nR, by rw [upd_same]; exact congrArg (fun z => some (HO.lst z)) (rv_app ts [tp]), by rw [upd_ne hhR]; exact svp _ _ hh6, by rw [List.length_append, List.length_singleton]; omega, fini _ _ ?_⟩
        rw [ew0]
        exact ((hms6.kp (Kp.of svp)).kp kp).app (MsT.one (MvT.kp (H := Ap3) ⟨tip, tup, htp, scp _ _ (sbp _ _ htip), scp _ _ htup⟩ kp))
      have hd0 : 0 < d := by
        refine Nat.pos_of_ne_zero fun z => h (by rw [z]; rfl)
      -- the move that stays
      refine ⟨fun σ' H' => ∃ ts', σ' = [some (.ref a), some (.ref fa), some (.ref nm), some (.ref s0), some (.int (d : Int)), some (.int us), some (.int (pl : Int)), some (.bl fi), some (.ref R), some (.ref hh), y10, some (.int (wt : Int)), some (.int (en : Int)), some (.int x.ne), some (.int x.co), some (.bl (x.fs && !x.ls)), y16, y17, y18] ∧ Same H H' ∧ H' R = some (.lst (rv ts')) ∧ H' hh = some (.lst ((figs (pcs bs)).map V.int)) ∧ ts'.length ≤ 10 * i + 1 ∧ MsT H' ts' (((endsM (numAt xs 0) bs d s b i).flatMap fun en => withM xs bs d us pl fi (lnM xs bs d s e b en) (wt + 1)) ++ preM xs d us pl x), ?_, ?_⟩
      · refine ⟨.int us, rfl, .int x.ne, rfl, _, _, rfl, rfl, .ref nm, rfl, nm, _, 1, .int (numAt xs 1), rfl, rfl, SqL.of (s6 _ _ hn), at1, _, _, rfl, rfl, _, rfl, ite2 (fun h => ?_) (fun h => ?_)⟩
        · have h := of_decide_eq_true h
          refine ⟨.ref R, rfl, .inl ⟨rfl, _, SqL.of hR6⟩, .int (en : Int), rfl, by show 2 ≤ sizeLine; decide, fun tiq nti => ?_⟩
          have saq := same_new nti (o := .tup [.int (en : Int), .non])
          have htiq : (upd H7 tiq (.tup [.int (en : Int), .non])) tiq = some (.tup [.int (en : Int), .non]) := upd_same
          generalize upd H7 tiq (.tup [.int (en : Int), .non]) = Aq1 at saq htiq ⊢
          refine ⟨.int x.co, rfl, .int (en : Int), rfl, .int us, rfl, .int x.ne, rfl, _, _, rfl, rfl, .int (pl : Int), rfl, .bl _, rfl, by show 4 ≤ sizeLine; decide, fun tuq ntu => ?_⟩
          have sbq := same_new ntu (o := .tup [.int (en : Int), .int (us + x.ne), .int (pl : Int), .bl (x.fs && !x.ls)])
          have htuq : (upd Aq1 tuq (.tup [.int (en : Int), .int (us + x.ne), .int (pl : Int), .bl (x.fs && !x.ls)])) tuq = some (.tup [.int (en : Int), .int (us + x.ne), .int (pl : Int), .bl (x.fs && !x.ls)]) := upd_same
          generalize upd Aq1 tuq (.tup [.int (en : Int), .int (us + x.ne), .int (pl : Int), .bl (x.fs && !x.ls)]) = Aq2 at sbq htuq ⊢
          refine ⟨by show 3 ≤ sizeLine; decide, fun tq nt => ?_⟩
          have scq := same_new nt (o := .tup [.ref tiq, .int x.co, .ref tuq])
          have htq : (upd Aq2 tq (.tup [.ref tiq, .int x.co, .ref tuq])) tq = some (.tup [.ref tiq, .int x.co, .ref tuq]) := upd_same
          generalize upd Aq2 tq (.tup [.ref tiq, .int x.co, .ref tuq]) = Aq3 at scq htq ⊢
          have svq := saq.trans (sbq.trans scq)
          have hRq := svq _ _ hR6
          have kp : Kp Aq3 (upd Aq3 R (.lst (rv ts ++ [.ref tq]))) := Kp.but hRq (fun z => z) upd_but
          refine ⟨R, _, .ref tq, rfl, rfl, hRq, (by rw [rv_len]; exact Nat.lt_of_le_of_lt htl (by rw [sizeLine_eq]; omega)), ts ++ [tq], rfl, same_at (s6.trans svq) nR, by rw [upd_same]; exact congrArg (fun z => some (HO.lst z)) (rv_app ts [tq]), by rw [upd_ne hhR]; exact svq _ _ hh6, by rw [List.length_append, List.length_singleton]; omega, ?_⟩
          unfold preM
          rw [if_pos ⟨hd0, h⟩]
          refine ((hms6.kp (Kp.of svq)).kp kp).app (MsT.one (MvT.kp (H := Aq3) ⟨tiq, tuq, htq, ?_, ?_⟩ kp))
          · show Aq3 tiq = some (.tup [.int (x.en : Int), .non])
            rw [hxe]; exact scq _ _ (sbq _ _ htiq)
          · show Aq3 tuq = some (.tup [.int (x.en : Int), .int (us + x.ne), .int (pl : Int), .bl (x.fs && !x.ls)])
            rw [hxe]; exact scq _ _ htuq
        · refine ⟨ts, rfl, s6, hR6, hh6, by omega, ?_⟩
          unfold preM
          rw [if_neg (fun z => h (decide_eq_true z.2)), List.append_nil]; exact hms6
      rintro σ' H8 ⟨ts1, rfl, s8, hR8, hh8, htl1, hms8⟩
      refine ⟨.int x.co, rfl, .ref a, rfl, .ref fa, rfl, .ref nm, rfl, .ref s0, rfl, .int (en : Int), rfl, a, fa, nm, s0, bs, fs, xs, d, k, s, e, en, us, pl, fi, rfl, fl.same s8, s8 _ _ hn, gx, s8 _ _ hst, hd0, hsp, hus, _, _, rfl, rfl, ?_⟩
      obtain ⟨tn, htn⟩ : ∃ v, v = openM xs bs d us 0 fi (decide (e = en) && !decide (d = s)) := ⟨_, rfl⟩
      refine ⟨.int (wt : Int), rfl, _, _, rfl, rfl, (wt : Int) + 1, rfl, by omega, by omega, ?_⟩
      have eN2 : ((wt : Int) + 1).toNat = wt + 1 := by omega
      rw [eN2]
      refine for_range (lo := 0) (n := wt + 1) (fun j σ H' => ∃ (y16 y17 y18 : Option V) (ts' : List Addr), σ = [some (.ref a), some (.ref fa), some (.ref nm), some (.ref s0), some (.int (d : Int)), some (.int us), some (.int (pl : Int)), some (.bl fi), some (.ref R), some (.ref hh), y10, some (.int (wt : Int)), some (.int (en : Int)), some (.int x.ne), some (.int (x.co + tn)), some (.bl (x.fs && !x.ls)), y16, y17, y18] ∧ Same H H' ∧ H' R = some (.lst (rv ts')) ∧ H' hh = some (.lst ((figs (pcs bs)).map V.int)) ∧ ts'.length ≤ 10 * i + 1 + j ∧ MsT H' ts' (((endsM (numAt xs 0) bs d s b i).flatMap fun en => withM xs bs d us pl fi (lnM xs bs d s e b en) (wt + 1)) ++ withM xs bs d us pl fi x j)) ⟨y16, y17, y18, ts1, by rw [htn]; rfl, s8, hR8, hh8, htl1, by unfold withM; show MsT _ _ (_ ++ (_ ++ [])); rw [List.append_nil]; exact hms8⟩ ?_ ?_
      · rintro j σ H9 hj ⟨y16, y17, y18, ts2, rfl, s9, hR9, hh9, htl2, hms9⟩
        have e0 : (0 : Int) + (j : Int) = (j : Int) := by omega
        rw [e0]
        refine ⟨.int x.ne, rfl, .ref hh, rfl, .int (pl : Int), rfl, (pl : Int), rfl, .int (pl : Int), rfl, .int (j : Int), rfl, _, _, rfl, rfl, ((pl + j : Nat) : Int), congrArg V.int (by omega), hh, _, rfl, SqL.of hh9, fun z nz => ?_⟩
        have ecut : cutV ((figs (pcs bs)).map V.int) (some (pl : Int)) (some ((pl + j : Nat) : Int)) = (((figs (pcs bs)).drop pl).take j).map V.int := by
          rw [cutV_mid _ (by rw [List.length_map]; omega) (by rw [List.length_map]; omega), List.map_take, List.map_drop, show pl + j - pl = j by omega]
        rw [ecut]
        have s10 := same_new nz (o := .lst ((((figs (pcs bs)).drop pl).take j).map V.int))
        have hz : (upd H9 z (.lst ((((figs (pcs bs)).drop pl).take j).map V.int))) z = some (.lst ((((figs (pcs bs)).drop pl).take j).map V.int)) := upd_same
        generalize upd H9 z (.lst ((((figs (pcs bs)).drop pl).take j).map V.int)) = HA at s10 hz ⊢
        have sA := s9.trans s10
        have hRA := s10 _ _ hR9
        have hhA := s10 _ _ hh9
        have hmsA := hms9.kp (Kp.of s10)
        refine ⟨z, _, rfl, SqL.of hz, _, _, rfl, rfl, ?_⟩
        obtain ⟨tp, htp⟩ : ∃ v, v = x.ne + topM (figs (pcs bs)) pl j := ⟨_, rfl⟩
        refine ⟨fun c H' => c = okF xs (figs (pcs bs)) pl x.ne j ∧ H' = HA, ?_, ?_, ?_⟩
        · unfold okF
          refine ⟨.int (j : Int), rfl, rfl, _, rfl, ite2 (fun h => ?_) (fun h => ?_)⟩
          · have h : j = 0 := by have := V.int.inj (of_decide_eq_true h); omega
            refine ⟨?_, rfl⟩
            rw [decide_eq_true h]; rfl
          · have h : ¬ j = 0 := fun z => h (by rw [z]; rfl)
            refine ⟨.int _, rfl, .ref nm, rfl, nm, _, 1, .int (numAt xs 1), rfl, rfl, SqL.of (sA _ _ hn), at1, _, _, rfl, rfl, _, rfl, ?_, rfl⟩
            rw [decide_eq_false h, Bool.false_or, Int.add_comm]; rfl
        · rintro H' ⟨h, rfl⟩
          refine ⟨.ref nm, rfl, nm, _, 7, .int (numAt xs 7), rfl, rfl, SqL.of (sA _ _ hn), at7, .int (wt : Int), rfl, .int (j : Int), rfl, _, _, rfl, rfl, _, _, rfl, rfl, .inl ⟨by omega, by omega⟩, ?_⟩
          have eco : x.co + tn + numAt xs 7 * ((wt : Int) - (j : Int)) = priceJ xs bs d us pl fi x j := by
            unfold priceJ
            rw [if_pos hd0, openM_left, ← hwt, el, ef, ← htn]; omega
          have eus : x.ne + ((((figs (pcs bs)).drop pl).take j)).sum = topM (figs (pcs bs)) pl j + x.ne := Int.add_comm _ _
          have epl : (pl : Int) + (j : Int) = ((pl + j : Nat) : Int) := by omega
          refine ⟨.ref R, rfl, .inl ⟨rfl, _, SqL.of hRA⟩, .int (en : Int), rfl, .int (j : Int), rfl, by show 2 ≤ sizeLine; decide, fun tir nti => ?_⟩
          have sar := same_new nti (o := .tup [.int (en : Int), .int (j : Int)])
          have htir : (upd H' tir (.tup [.int (en : Int), .int (j : Int)])) tir = some (.tup [.int (en : Int), .int (j : Int)]) := upd_same
          generalize upd H' tir (.tup [.int (en : Int), .int (j : Int)]) = Ar1 at sar htir ⊢
          refine ⟨.int _, rfl, .int _, rfl, _, _, rfl, rfl, .int (en : Int), rfl, .int _, rfl, .int (pl : Int), rfl, .int (j : Int), rfl, _, _, rfl, rfl, .bl _, rfl, by show 4 ≤ sizeLine; decide, fun tur ntu => ?_⟩
          have sbr := same_new ntu (o := .tup [.int (en : Int), .int (x.ne + (((figs (pcs bs)).drop pl).take j).sum), .int ((pl : Int) + (j : Int)), .bl (x.fs && !x.ls)])
          have htur : (upd Ar1 tur (.tup [.int (en : Int), .int (x.ne + (((figs (pcs bs)).drop pl).take j).sum), .int ((pl : Int) + (j : Int)), .bl (x.fs && !x.ls)])) tur = some (.tup [.int (en : Int), .int (topM (figs (pcs bs)) pl j + x.ne), .int ((pl + j : Nat) : Int), .bl (x.fs && !x.ls)]) := by rw [upd_same, eus, epl]
          generalize upd Ar1 tur (.tup [.int (en : Int), .int (x.ne + (((figs (pcs bs)).drop pl).take j).sum), .int ((pl : Int) + (j : Int)), .bl (x.fs && !x.ls)]) = Ar2 at sbr htur ⊢
          refine ⟨by show 3 ≤ sizeLine; decide, fun tr nt => ?_⟩
          have scr := same_new nt (o := .tup [.ref tir, .int (x.co + tn + numAt xs 7 * ((wt : Int) - (j : Int))), .ref tur])
          have htr : (upd Ar2 tr (.tup [.ref tir, .int (x.co + tn + numAt xs 7 * ((wt : Int) - (j : Int))), .ref tur])) tr = some (.tup [.ref tir, .int (priceJ xs bs d us pl fi x j), .ref tur]) := by rw [upd_same, eco]
          generalize upd Ar2 tr (.tup [.ref tir, .int (x.co + tn + numAt xs 7 * ((wt : Int) - (j : Int))), .ref tur]) = Ar3 at scr htr ⊢
          have svr := sar.trans (sbr.trans scr)
          have hRr := svr _ _ hRA
          have kp : Kp Ar3 (upd Ar3 R (.lst (rv ts2 ++ [.ref tr]))) := Kp.but hRr (fun z => z) upd_but
          refine ⟨R, _, .ref tr, rfl, rfl, hRr, (by rw [rv_len]; exact Nat.lt_of_le_of_lt htl2 (by rw [sizeLine_eq]; omega)), _, _, _, ts2 ++ [tr], rfl, same_at (sA.trans svr) nR, by rw [upd_same]; exact congrArg (fun z => some (HO.lst z)) (rv_app ts2 [tr]), by rw [upd_ne hhR]; exact svr _ _ hhA, by rw [List.length_append, List.length_singleton]; omega, ?_⟩
          unfold withM
          rw [figM_succ, if_pos h.symm, List.map_append, ← List.append_assoc, ← List.append_assoc]
          refine MsT.app ?_ (MsT.one (MvT.kp (H := Ar3) ⟨tir, tur, htr, ?_, ?_⟩ kp))
          · rw [List.append_assoc]; exact (hmsA.kp (Kp.of svr)).kp kp
          · show Ar3 tir = some (.tup [.int (x.en : Int), .int (j : Int)])
            rw [hxe]; exact scr _ _ (sbr _ _ htir)
          · show Ar3 tur = some (.tup [.int (x.en : Int), .int (topM (figs (pcs bs)) pl j + x.ne), .int ((pl + j : Nat) : Int), .bl (x.fs && !x.ls)])
            rw [hxe]; exact scr _ _ htur
        · rintro H' ⟨h, rfl⟩
          refine ⟨_, _, y18, ts2, rfl, sA, hRA, hhA, by omega, ?_⟩
          unfold withM
          rw [figM_succ, ← h, if_neg (by decide), List.append_nil]; exact hmsA
      · rintro σ H9 ⟨y16, y17, y18, ts2, rfl, s9, hR9, hh9, htl2, hms9⟩
        exact ⟨y10, _, _, _, _, y16, y17, y18, ts2, rfl, s9, hR9, hh9, by omega, fini _ _ hms9⟩
    · rintro σ H6 ⟨y10, y12, y13, y14, y15, y16, y17, y18, ts, rfl, s6, hR6, hh6, htl, hms⟩
      exact ⟨.ref R, rfl, q H6 R ts s6 nR hR6 (by omega) hms⟩
end
end K37

set_option maxRecDepth 100000
set_option maxHeartbeats 8000000
namespace K37
open PySem PySem.Spec PyProof.Rows L2
/-! ### the same through and through -/
theorem leaf_same {n : Nat} {H : Hp} {x : V} (h : Leaf x) : SameV n H x x := by
  cases n with
  | zero => exact ⟨rfl, h⟩
  | succ n => exact .inl ⟨rfl, h⟩
theorem li (i : Int) : Leaf (.int i) := .inr (.inl ⟨i, rfl⟩)
theorem lb (b : Bool) : Leaf (.bl b) := .inr (.inr (.inl ⟨b, rfl⟩))
theorem ls (z : Str) : Leaf (.str z) := .inl ⟨z, rfl⟩
theorem tup_same2 {n : Nat} {H : Hp} {a b : Addr} {xs : List V} (h : H a = some (.tup xs)) (h2 : H b = some (.tup xs)) (hl : xs.length ≤ 1000) (hx : ∀ x ∈ xs, SameV n H x x) : SameV (n + 1) H (.ref a) (.ref b) :=
  .inr ⟨a, b, xs, xs, rfl, rfl, .inr ⟨h, h2⟩, rfl, hl, fun i u v hu hv => by rw [hu] at hv; cases hv; exact hx u (List.mem_of_getElem? hu)⟩
theorem lst_same2 {n : Nat} {H : Hp} {a b : Addr} {xs : List V} (h : H a = some (.lst xs)) (h2 : H b = some (.lst xs)) (hl : xs.length ≤ 1000) (hx : ∀ x ∈ xs, SameV n H x x) : SameV (n + 1) H (.ref a) (.ref b) :=
  .inr ⟨a, b, xs, xs, rfl, rfl, .inl ⟨h, h2⟩, rfl, hl, fun i u v hu hv => by rw [hu] at hv; cases hv; exact hx u (List.mem_of_getElem? hu)⟩
theorem ints_leaf {l : List Int} : ∀ x ∈ l.map V.int, Leaf x := fun x hx => by
  obtain ⟨i, _, rfl⟩ := List.mem_map.mp hx
  exact li i
theorem pc_same {H : Hp} {p : Pc} (h : PcT H p) : SameV 2 H (.ref p.t) (.ref p.t) := by
  obtain ⟨h1, h2, h3, h4, h5, h6, h7⟩ := h
  refine tup_same2 h1 h1 (by show 4 ≤ 1000; decide) fun x hx => ?_
  have hc : x = .int p.h ∨ x = .ref p.ti ∨ x = .ref p.no ∨ x = .ref p.ca := by simpa using hx
  rcases hc with rfl | rfl | rfl | rfl
  · exact leaf_same (li _)
  · refine tup_same2 h2 h2 ?_ fun x hx => leaf_same ?_
    · unfold tieV
      rw [List.length_cons, List.length_map]
      cases p.tn with
      | none => show 0 + 1 ≤ 1000; decide
      | some i => show 1 + 1 ≤ 1000; decide
    · rcases List.mem_cons.mp hx with rfl | hx
      · exact ls _
      · exact ints_leaf _ hx
  · exact tup_same2 h4 h4 (by rw [List.length_map]; omega) fun x hx => leaf_same (ints_leaf _ hx)
  · exact tup_same2 h6 h6 (by rw [List.length_map]; omega) fun x hx => leaf_same (ints_leaf _ hx)
theorem pcs_same {H : Hp} {ps : List Pc} (h : ∀ p ∈ ps, PcT H p) : ∀ x ∈ pv' ps, SameV 2 H x x := fun x hx => by
  obtain ⟨p, hp, rfl⟩ := List.mem_map.mp hx
  exact pc_same (h p hp)
theorem bk_same {H : Hp} {b : Bk} (h : BkT H b) : SameV 4 H (.ref b.t) (.ref b.t) := by
  obtain ⟨h1, h2, h3, h4⟩ := h
  refine tup_same2 h1 h1 (by show 5 ≤ 1000; decide) fun x hx => ?_
  have hc : x = .int b.a ∨ x = .int b.b ∨ x = .int b.c ∨ x = .bl b.f ∨ x = .ref b.pt := by simpa using hx
  rcases hc with rfl | rfl | rfl | rfl | rfl
  · exact leaf_same (li _)
  · exact leaf_same (li _)
  · exact leaf_same (li _)
  · exact leaf_same (lb _)
  · exact tup_same2 h2 h2 (by rw [pv_len]; omega) (pcs_same h4)
theorem bs_same {H : Hp} {bs : List Bk} {a b : Addr} (h : BsT H bs) (ha : H a = some (.lst (bv bs))) (hb : H b = some (.lst (bv bs))) (hl : bs.length ≤ 200) : SameV 5 H (.ref a) (.ref b) :=
  lst_same2 ha hb (by rw [bv_len]; omega) fun x hx => by
    obtain ⟨p, hp, rfl⟩ := List.mem_map.mp hx
    exact bk_same (h p hp)
theorem tup_same3 {n : Nat} {H : Hp} {a b : Addr} {xs ys : List V} (h : H a = some (.tup xs)) (h2 : H b = some (.tup ys)) (hl : xs.length = ys.length) (hl2 : ys.length ≤ 1000) (hx : ∀ (i : Nat) u v, xs[i]? = some u → ys[i]? = some v → SameV n H u v) : SameV (n + 1) H (.ref a) (.ref b) :=
  .inr ⟨a, b, xs, ys, rfl, rfl, .inr ⟨h, h2⟩, hl, hl2, hx⟩
theorem lfg (g : Option Nat) : Leaf (fgV g) := by
  cases g with
  | none => exact .inr (.inr (.inr rfl))
  | some j => exact .inr (.inl ⟨_, rfl⟩)
theorem mv_same {H : Hp} {t u : Addr} {m : Mo} (h : MvT H t m) (g : MvT H u m) : SameV 2 H (.ref t) (.ref u) := by
  obtain ⟨ti, ts, a1, a2, a3⟩ := h
  obtain ⟨ui, us, b1, b2, b3⟩ := g
  refine tup_same3 a1 b1 rfl (by show 3 ≤ 1000; decide) fun i x y hx hy => ?_
  match i with
  | 0 => cases hx; cases hy; exact tup_same2 a2 b2 (by show 2 ≤ 1000; decide) fun z hz => leaf_same (by
      have hc : z = .int (m.en : Int) ∨ z = fgV m.fg := by simpa using hz
      rcases hc with rfl | rfl
      · exact li _
      · exact lfg _)
  | 1 => cases hx; cases hy; exact leaf_same (li _)
  | 2 => cases hx; cases hy; exact tup_same2 a3 b3 (by show 4 ≤ 1000; decide) fun z hz => leaf_same (by
      have hc : z = .int (m.en : Int) ∨ z = .int m.us ∨ z = .int (m.pl : Int) ∨ z = .bl m.bg := by simpa using hz
      rcases hc with rfl | rfl | rfl | rfl
      · exact li _
      · exact li _
      · exact li _
      · exact lb _)
  | i + 3 => nomatch hx
theorem same_up {H : Hp} : ∀ {n : Nat} {x y : V}, SameV n H x y → SameV (n + 1) H x y
  | 0, _, _, h => .inl h
  | n + 1, _, _, .inl h => .inl h
  | n + 1, _, _, .inr ⟨a, b, xs, ys, e1, e2, h, hl, hl2, hx⟩ => .inr ⟨a, b, xs, ys, e1, e2, h, hl, hl2, fun i u v hu hv => same_up (hx i u v hu hv)⟩
theorem ms_same {H : Hp} {r q : Addr} {ts us : List Addr} {ms : List Mo} (hr : H r = some (.lst (rv ts))) (hq : H q = some (.lst (rv us))) (h : MsT H ts ms) (g : MsT H us ms) (hl : us.length ≤ 1000) : SameV 3 H (.ref r) (.ref q) := by
  refine .inr ⟨r, q, rv ts, rv us, rfl, rfl, .inl ⟨hr, hq⟩, by rw [rv_len, rv_len, h.1, g.1], by rw [rv_len]; exact hl, fun i x y hx hy => ?_⟩
  unfold rv at hx hy
  rw [List.getElem?_map] at hx hy
  obtain ⟨t, e1, rfl⟩ := Option.map_eq_some_iff.mp hx
  obtain ⟨u, e2, rfl⟩ := Option.map_eq_some_iff.mp hy
  have hi : i < ms.length := by rw [← h.1]; exact (List.getElem?_eq_some_iff.mp e1).1
  exact mv_same (h.2 i t _ e1 (List.getElem?_eq_getElem hi)) (g.2 i u _ e2 (List.getElem?_eq_getElem hi))
/-! ### what the drawn blocks give -/
structure BFacts (bs : List Bk) : Prop where
  nn : ∀ p ∈ pcs bs, NnOk p ∧ 1 ≤ p.h
  b0 : ∀ b ∈ bs, 0 ≤ b.b
  ac : ∀ b ∈ bs, 0 ≤ b.a ∧ 0 ≤ b.c
  no : ∀ p ∈ pcs bs, ∀ n ∈ p.notes, 0 ≤ n
  ca : ∀ c ∈ figs (pcs bs), 0 ≤ c
  one : ∀ b ∈ bs, 1 ≤ b.ps.length
theorem bfacts {m : Int} {bs : List Bk} (h : ∀ b ∈ bs, BkOk m b) : BFacts bs := by
  have pk : ∀ p ∈ pcs bs, ∃ la, PieceOk la m p := fun p hp => by
    obtain ⟨b, hb, hp⟩ := List.mem_flatMap.mp hp
    obtain ⟨j, hj⟩ := List.getElem?_of_mem hp
    exact ⟨_, (h b hb).2.2 j p hj⟩
  refine ⟨fun p hp => ⟨bks_nn h p hp, ?_⟩, fun b hb => (h b hb).2.1.1, fun b hb => ⟨(h b hb).2.1.2.2.1, (h b hb).2.1.2.2.2⟩, fun p hp => ?_, fun c hc => ?_, fun b hb => (h b hb).1⟩
  · obtain ⟨la, h⟩ := pk p hp; exact h.1.1
  · obtain ⟨la, h⟩ := pk p hp; exact h.1.2.2.1
  · obtain ⟨p, hp, hc⟩ := List.mem_flatMap.mp hc
    obtain ⟨la, h⟩ := pk p hp; exact h.1.2.2.2 c hc
theorem calN_mono (bs : List Bk) {i j : Nat} (h : i ≤ j) : calN bs i ≤ calN bs j := by
  unfold calN
  have e : (pcs bs).take j = (pcs bs).take i ++ ((pcs bs).drop i).take (j - i) := by
    rw [show j = i + (j - i) by omega, List.take_add, show i + (j - i) - i = j - i by omega]
  rw [e, figs_app, List.length_append]; omega
theorem need_nn {bs : List Bk} (F : BFacts bs) {st en s : Nat} {b : Bk} (hb : b ∈ bs) : 0 ≤ needM bs st en s b := by
  obtain ⟨h1, h2⟩ := F.ac b hb
  have h3 : 0 ≤ sumN (segM bs st en) := sum_nn _ fun p hp => by
    have := sum_nn (fun x : Int => x) (l := p.notes) fun x hx => F.no p (seg_mem hp) x hx
    rw [List.map_id'] at this; exact this
  unfold needM
  split <;> omega
theorem moves_mem {xs : List V} {bs : List Bk} (F : BFacts bs) {d : Nat} {us : Int} {pl : Nat} {fi : Bool} (hus : 0 ≤ us) (hpl : pl ≤ calN bs d) {m : Mo} (hm : m ∈ movesM xs bs d us pl fi) : d < m.en ∧ m.en ≤ (pcs bs).length ∧ 0 ≤ m.us ∧ m.pl ≤ calN bs m.en := by
  by_cases hd : (pcs bs).length ≤ d
  · rw [movesM_end hd] at hm; nomatch hm
  · obtain ⟨k, s, e, hsp⟩ : ∃ k s e, (spans 0 0 bs)[d]? = some (k, s, e) := ⟨_, _, _, List.getElem?_eq_getElem (by rw [spans_len]; omega)⟩
    obtain ⟨b, j1, j2, j3, j4, j5, j6, j7⟩ := spans_at hsp
    rw [Nat.sub_zero] at j2
    rw [Nat.zero_add] at j4 j5 j6
    rw [movesM_at hsp j2] at hm
    obtain ⟨en, hen, hm⟩ := List.mem_flatMap.mp hm
    unfold endsM at hen
    have hen := List.mem_range'_1.mp (List.mem_filter.mp hen).1
    have n0 := need_nn F (st := d) (en := en) (s := s) (List.mem_of_getElem? j2)
    have mono := calN_mono bs (show d ≤ en by omega)
    unfold withM at hm
    rcases List.mem_append.mp hm with hm | hm
    · unfold preM at hm
      split at hm
      · rw [List.mem_singleton.mp hm]
        exact ⟨by show d < en; omega, by show en ≤ _; omega, by show 0 ≤ us + needM bs d en s b; omega, by show pl ≤ calN bs en; omega⟩
      · nomatch hm
    · obtain ⟨j, hj, rfl⟩ := List.mem_map.mp hm
      unfold figM at hj
      have hj := List.mem_range.mp (List.mem_filter.mp hj).1
      have t0 : 0 ≤ topM (figs (pcs bs)) pl j := by
        have := topM_mono F.ca pl 0 j (Nat.zero_le _)
        have e : topM (figs (pcs bs)) pl 0 = 0 := rfl
        omega
      exact ⟨by show d < en; omega, by show en ≤ _; omega, by show 0 ≤ topM (figs (pcs bs)) pl j + needM bs d en s b; omega, by show pl + j ≤ calN bs en; omega⟩
theorem moves_some {xs : List V} {bs : List Bk} {d : Nat} {us : Int} {pl : Nat} {fi : Bool} (hd : d < (pcs bs).length) : movesM xs bs d us pl fi ≠ [] := by
  obtain ⟨k, s, e, hsp⟩ : ∃ k s e, (spans 0 0 bs)[d]? = some (k, s, e) := ⟨_, _, _, List.getElem?_eq_getElem (by rw [spans_len]; omega)⟩
  obtain ⟨b, j1, j2, j3, j4, j5, j6, j7⟩ := spans_at hsp
  rw [Nat.sub_zero] at j2
  rw [Nat.zero_add] at j4 j5 j6
  rw [movesM_at hsp j2]
  have h1 : d + 1 ∈ endsM (numAt xs 0) bs d s b (e - d) := by
    unfold endsM
    refine List.mem_filter.mpr ⟨List.mem_range'_1.mpr ⟨by omega, by omega⟩, ?_⟩
    unfold okL; rw [decide_eq_true rfl, Bool.true_or]
  have h2 : moJ xs bs d us pl fi (lnM xs bs d s e b (d + 1)) 0 ∈ withM xs bs d us pl fi (lnM xs bs d s e b (d + 1)) (calN bs d - pl + 1) := by
    unfold withM
    refine List.mem_append_right _ (List.mem_map_of_mem ?_)
    unfold figM
    exact List.mem_filter.mpr ⟨List.mem_range.mpr (by omega), rfl⟩
  intro z
  have h3 : moJ xs bs d us pl fi (lnM xs bs d s e b (d + 1)) 0 ∈ (endsM (numAt xs 0) bs d s b (e - d)).flatMap fun en => withM xs bs d us pl fi (lnM xs bs d s e b en) (calN bs d - pl + 1) := List.mem_flatMap.mpr ⟨d + 1, h1, h2⟩
  rw [z] at h3; nomatch h3
section
variable {P : Program} {w : World} {K : PySem.W.Frag} {mg : Str → Option Value} {base : Heap} {t3 t4 : Tok} {C CS CN CB FT fi fl fb pp gp pf gf : Addr} {mc u : Value} {di dl db dp df : FuncData}
/-! ### _law_final -/
def spLfi : Sp := fun vs H Q _ => ∃ (a fa nm s0 : Addr) (bs : List Bk) (fs xs : List V) (d : Nat) (us : Int) (pl : Nat) (fi : Bool), vs = [.ref fa, .ref nm, .ref s0] ∧ FlA H a fa bs fs ∧ H nm = some (.lst xs) ∧ Bo.Good xs ∧ Small bs ∧ StT H s0 d us pl fi ∧
  ∀ H', Same H H' → Q (.int (numAt xs 7 * (((figs (pcs bs)).length : Int) - (pl : Int)))) H'
abbrev pLfi : List Str := ["_law_flat_here", "_law_nums", "_law_state"]
abbrev nLfi : List Str := ["_law_flat_here", "_law_nums", "_law_state", "_law_item"]
theorem scLfi : FnScope nLfi pLfi (defScope sLawFinal) := ⟨rfl, rfl, rfl, by decide +kernel, rfl, by decide +kernel, by decide +kernel⟩
theorem ok_lfi {f : Addr} {fd : FuncData} (B : Blt mg) (F : Fun K "_law_final" "_law_final" sLawFinal f fd) : FnOk P w K mg base CX0 1 f fd pLfi spLfi := by
  refine F.ok scLfi (fun vs H Q E h => ?_) (fun cdv A0 outer s H vs Q E hr h => ?_)
  · obtain ⟨a, fa, nm, s0, bs, fs, xs, d, us, pl, fi, rfl, _⟩ := h; rfl
  · obtain ⟨a, fa, nm, s0, bs, fs, xs, d, us, pl, fi, rfl, ⟨ha, hb, hF, hT⟩, hn, gx, hsm, hst, q⟩ := h
    have hs2 := hsm.2
    have hfsl : fs.length = (pcs bs).length := hT.1
    have at7 : atI xs 7 = some (.int (numAt xs 7)) := by show atI xs ((7 : Nat) : Int) = _; exact atI_nat (good_num gx (k := 7) (by decide)).1
    obtain ⟨_, w1, w2⟩ := good_num gx (k := 7) (by decide)
    have w1 : 0 ≤ numAt xs 7 := w1
    have w2 : numAt xs 7 ≤ 2000 := w2
    refine ⟨_, (pss_one (ps_ret (pe_op op_mul (pe_ix ix_list (pv 1) pe_int (fun _ _ => rfl)) (pe_op op_sub (pe_callB (cr_sum rfl) (by rfl) B.sum (by decide +kernel) (pa_cons (pe_lc (own := [("_law_item", 3)]) (g := gName 3) (tt := tYes) rfl scLfi.nd (pi_list (pv 0)) (blkOk_by (N := nLfi) (sc := defScope sLawFinal) (by decide +kernel)) (fun _ _ _ _ _ => (pg_name (i := 3) scLfi.nd rfl (.inl rfl))) (fun _ _ _ _ _ => pts_nil) (fun _ _ _ _ _ => (pe_callB (show CallR _ (.builtin "len") (rLn K) from call_len) (by rfl) B.len PySem.boot_len (pa_cons (pe_ix (show IxR _ (rIxT K) from ix_tup) (pe_ix (show IxR _ (rIxT K) from ix_tup) (pv 3) pe_int (fun _ _ => rfl)) pe_int (fun _ _ => rfl)) pa_nil)))) pa_nil)) (pe_ix ix_tup (pv 2) pe_int (fun _ _ => rfl)))))), ?_⟩
    refine ⟨.ref nm, rfl, nm, _, 7, .int (numAt xs 7), rfl, rfl, SqL.of hn, at7, .ref fa, rfl, fa, rfl, ⟨_, SqL.of hF⟩, fun D hD => ?_⟩
    refine lc_list (K := K) (a := fa) (xs := fs) (fun i H' => Same H H' ∧ ∃ cs : List Int, H' D = some (.lst (cs.map V.int)) ∧ cs.length = i ∧ cs.sum = ((figs ((pcs bs).take i)).length : Nat)) ⟨same_new hD, [], upd_same, rfl, rfl⟩ (fun i H' _ ⟨s, _⟩ => SqL.of (s _ _ hF)) ?_ ?_
    · rintro i x H' hi ⟨sm, cs, hc, hcl', hcs⟩
      have hil := (List.getElem?_eq_some_iff.mp hi).1
      obtain ⟨p, ep⟩ : ∃ x, (pcs bs)[i]? = some x := ⟨_, List.getElem?_eq_getElem (by omega)⟩
      obtain ⟨k', s', e', esp⟩ : ∃ k s e, (spans 0 0 bs)[i]? = some (k, s, e) := ⟨_, _, _, List.getElem?_eq_getElem (by rw [spans_len]; omega)⟩
      obtain ⟨u, u1, u2⟩ := hT.2.2 i p k' s' e' ep esp
      rw [hi] at u1; cases u1
      obtain ⟨c1, _, _, _, _, c6, _⟩ := (hb.kp (Kp.of sm)).pcs p (List.mem_of_getElem? ep)
      refine ⟨rfl, .ref u, rfl, u, _, 0, .ref p.t, rfl, rfl, SqT.of (sm _ _ u2), rfl, p.t, _, 3, .ref p.ca, rfl, rfl, SqT.of c1, rfl, .ref p.ca, p.calls.length, rfl, .inr ⟨_, SqT.of c6, (List.length_map _).symm⟩, _, hc, (by rw [List.length_map]; exact small1000 (by omega)), same_at sm hD, cs ++ [(p.calls.length : Int)], by rw [upd_same, map_snoc], by rw [List.length_append, hcl']; rfl, ?_⟩
      rw [sum_snoc, hcs, List.take_add_one, ep]
      show _ = (((figs ((pcs bs).take i ++ [p])).length : Nat) : Int)
      rw [figs_snoc, List.length_append, Int.natCast_add]
    rintro H5 ⟨s5, cs, hc, hcl', hcs⟩
    rw [hfsl, List.take_length] at hcs
    refine ⟨D, cs, rfl, SqL.of hc, .ref s0, rfl, s0, _, 2, .int (pl : Int), rfl, rfl, SqT.of (s5 _ _ hst), rfl, _, _, rfl, rfl, _, _, rfl, rfl, .inl ⟨by omega, by omega⟩, ?_⟩
    rw [hcs]; exact q H5 s5
end
end K37

set_option maxRecDepth 100000
set_option maxHeartbeats 8000000
namespace K37
open PySem PySem.Spec PyProof.Rows L2
/-! ### law -/
theorem cutV_from (xs : List V) {m : Nat} (h : m ≤ xs.length) : cutV xs (some (m : Int)) none = xs.drop m := by
  unfold cutV
  rw [HT.sIx_nat, HT.sIx_none, Nat.min_eq_left h]
  exact List.take_of_length_le (by rw [List.length_drop]; exact Nat.le_refl _)
def dlims : List Int := 41 :: List.replicate 40 2520
theorem due0 {bs : List Bk} (h1 : (pcs bs).length ≤ 40) (h2 : (figs (pcs bs)).length ≤ 4) : dueN bs = 0 := by
  unfold dueN; rw [if_neg (by omega), if_neg (by omega)]
theorem pcs_app (a b : List Bk) : pcs (a ++ b) = pcs a ++ pcs b := by unfold pcs; rw [List.flatMap_append]
theorem book_but {C CB : Addr} {H H' : Hp} {p bk dx : Addr} {l : L3} {xs : List V} (h : Bo.BookA CB H bk xs) (hl : xs.length = 11) (hp : H p = some (.ins C dx (fs3 l))) (s : ∀ b o, b ≠ p → H b = some o → H' b = some o) : Bo.BookA CB H' bk xs := by
  obtain ⟨dy, w, h1, h2⟩ := h
  refine ⟨dy, w, s _ _ (fun e => ?_) h1, s _ _ (fun e => by rw [e, hp] at h2; cases h2) h2⟩
  rw [e, hp] at h1
  have h3 : fs3 l = Bo.fsB xs w := by injection h1 with h1; injection h1
  have h4 : (fs3 l).lookup ("_blocks" : Str) = (Bo.fsB xs w).lookup ("_blocks" : Str) := by rw [h3]
  obtain ⟨x0, x1, x2, x3, x4, x5, x6, x7, x8, x9, x10, rfl⟩ := Bo.len11 hl
  have h5 : some (V.ref l.1) = (none : Option V) := h4
  cases h5
theorem calN_take {bs : List Bk} {m d : Nat} (h : d ≤ (pcs (bs.take m)).length) : calN (bs.take m) d = calN bs d := by
  unfold calN
  have e : pcs bs = pcs (bs.take m) ++ pcs (bs.drop m) := by rw [← pcs_app, List.take_append_drop]
  rw [e, List.take_append_of_le_length h]
/-- what stands through the law -/
structure LB (CB : Addr) (H : Hp) (bl nu pk bk : Addr) (bs : List Bk) (xs : List V) (ds : List Int) : Prop where
  hbl : H bl = some (.lst (bv bs))
  hb : BsT H bs
  hnu : H nu = some (.lst xs)
  hpk : H pk = some (.lst (ds.map V.int))
  hbk : Bo.BookA CB H bk xs
theorem LB.same {CB : Addr} {H H' : Hp} {bl nu pk bk : Addr} {bs : List Bk} {xs : List V} {ds : List Int} (L : LB CB H bl nu pk bk bs xs ds) (s : Same H H') : LB CB H' bl nu pk bk bs xs ds := ⟨s _ _ L.hbl, L.hb.kp (Kp.of s), s _ _ L.hnu, s _ _ L.hpk, L.hbk.same s⟩
theorem LB.but {C CB : Addr} {H H' : Hp} {p bl nu pk bk dx : Addr} {l : L3} {bs : List Bk} {xs : List V} {ds : List Int} (L : LB CB H bl nu pk bk bs xs ds) (gx : Bo.Good xs) (hp : H p = some (.ins C dx (fs3 l))) (s : Bt p H H') : LB CB H' bl nu pk bk bs xs ds := by
  have ne : ∀ {a : Addr} {ys : List V}, H a = some (.lst ys) → a ≠ p := fun h e => by rw [e, hp] at h; cases h
  exact ⟨s _ _ (ne L.hbl) L.hbl, L.hb.kp (Kp.but hp (fun z => z) s), s _ _ (ne L.hnu) L.hnu, s _ _ (ne L.hpk) L.hpk, book_but L.hbk gx.1 hp s⟩
section
variable {P : Program} {w : World} {K : PySem.W.Frag} {mg : Str → Option Value} {base : Heap} {t3 t4 : Tok} {C CT CE CS CN CB FT fi fl fb pp gp pf gf : Addr} {mc u : Value} {di dl db dp df : FuncData}
theorem init_b2 {d0 f : Addr} {fd : FuncData} (F : InitD K d0 f fd) : Binds K fd pIn [] := by
  obtain ⟨ds, hv, hb⟩ : ∃ ds, Vals ([] : List V) ds ∧ Binds K fd pIn ds :=
    F.binds1 2 1 (fun z => nomatch z) rfl fun T kV doc pm an cdv ct us its e1 e2 => match us, its, e1, e2 with
      | [_, _], [_], _, _ => ⟨_, rfl, rfl⟩
  cases hv; exact hb
def spSameK (K : PySem.W.Frag) : Sp := fun vs H Q _ => ∃ (a b : Addr) (xs : List V) (o : Obj), vs = [.ref a, .ref b] ∧ K.lookup a = some o ∧ o.cls = .type "tuple" ∧ SqT K H a xs ∧ H b = some (.tup xs) ∧ xs.length ≤ 1000 ∧ (∀ (i : Nat) (v : V), xs[i]? = some v → Leaf v) ∧ Q (.bl true) H
theorem ok_sameK {f_same : Addr} {fd_same : FuncData} (B : Blt mg) (F_same : Fun K "_law_same" "_law_same" sSame f_same fd_same) (b_same : Binds K fd_same ["_law_one", "_law_two"] []) (g_same : mg "_law_same" = some (.ref f_same)) : FnOk P w K mg base CX0 2 f_same fd_same ["_law_one", "_law_two"] (spSameK K) := by
  have G_same : FnOk P w K mg base CX0 1 f_same fd_same ["_law_one", "_law_two"] (spSame 0) := ok_same B F_same b_same g_same 0
  refine F_same.ok scSame (fun vs H Q E h => ?_) (fun cdv A outer s H vs Q E hr h => ?_)
  · obtain ⟨a, b, xs, o, rfl, _⟩ := h; rfl
  · obtain ⟨a, b, xs, o, rfl, hko, hkc, ha, hb, hx, hall, q⟩ := h
    refine ⟨_, (pss_cons (ps_if (pt_cmpR op_isN (pv 1) pe_non (nomark _)) (pss_one ps_never) pss_nil)
      (pss_cons (ps_if (pt_val (pe_callB call_isi (by rfl) B.isi (by decide +kernel) (pa_cons (pv 1) (pa_cons (pe_bltn (v := .ty "bool") (by rfl) B.bool (by decide +kernel) rfl) pa_nil)))) (pss_one (ps_ret (pe_and (pe_callB call_isi (by rfl) B.isi (by decide +kernel) (pa_cons (pv 0) (pa_cons (pe_bltn (v := .ty "bool") (by rfl) B.bool (by decide +kernel) rfl) pa_nil))) (pe_one (pe_cmpR op_eq (pv 0) (pv 1) (nomark _)))))) pss_nil)
      (pss_cons (ps_if (pt_val (pe_callB call_isi (by rfl) B.isi (by decide +kernel) (pa_cons (pv 1) (pa_cons (pe_bltn (v := .ty "int") (by rfl) B.int (by decide +kernel) rfl) pa_nil)))) (pss_one (ps_ret (pe_and (pe_callB call_isi (by rfl) B.isi (by decide +kernel) (pa_cons (pv 0) (pa_cons (pe_bltn (v := .ty "int") (by rfl) B.int (by decide +kernel) rfl) pa_nil))) (pe_and (pe_not (pe_callB call_isi (by rfl) B.isi (by decide +kernel) (pa_cons (pv 0) (pa_cons (pe_bltn (v := .ty "bool") (by rfl) B.bool (by decide +kernel) rfl) pa_nil)))) (pe_one (pe_cmpR op_eq (pv 0) (pv 1) (nomark _))))))) pss_nil)
      (pss_cons (ps_if (pt_val (pe_callB call_isi (by rfl) B.isi (by decide +kernel) (pa_cons (pv 1) (pa_cons (pe_bltn (v := .ty "str") (by rfl) B.str (by decide +kernel) rfl) pa_nil)))) (pss_one (ps_ret (pe_and (pe_callB call_isi (by rfl) B.isi (by decide +kernel) (pa_cons (pv 0) (pa_cons (pe_bltn (v := .ty "str") (by rfl) B.str (by decide +kernel) rfl) pa_nil))) (pe_one (pe_cmpR op_eq (pv 0) (pv 1) (nomark _)))))) pss_nil)
      (pss_cons (ps_if (PW.pt (pw_and (pt_val (pe_callB call_isi (by rfl) B.isi (by decide +kernel) (pa_cons (pv 1) (pa_cons (pe_bltn (v := .ty "tuple") (by rfl) B.tuple (by decide +kernel) rfl) pa_nil)))) (pw_and1 (pt_not (pt_val (pe_callB call_isi (by rfl) B.isi (by decide +kernel) (pa_cons (pv 0) (pa_cons (pe_bltn (v := .ty "tuple") (by rfl) B.tuple (by decide +kernel) rfl) pa_nil)))))))) (pss_one ps_never) pss_nil)
      (pss_cons (ps_if (PW.pt (pw_and (pt_val (pe_callB call_isi (by rfl) B.isi (by decide +kernel) (pa_cons (pv 1) (pa_cons (pe_bltn (v := .ty "list") (by rfl) B.list (by decide +kernel) rfl) pa_nil)))) (pw_and1 (pt_not (pt_val (pe_callB call_isi (by rfl) B.isi (by decide +kernel) (pa_cons (pv 0) (pa_cons (pe_bltn (v := .ty "list") (by rfl) B.list (by decide +kernel) rfl) pa_nil)))))))) (pss_one ps_never) pss_nil)
      (pss_cons (ps_if (PW.pt (pw_or (pt_val (pe_callB call_isi (by rfl) B.isi (by decide +kernel) (pa_cons (pv 1) (pa_cons (pe_bltn (v := .ty "tuple") (by rfl) B.tuple (by decide +kernel) rfl) pa_nil)))) (pw_or1 (pt_val (pe_callB call_isi (by rfl) B.isi (by decide +kernel) (pa_cons (pv 1) (pa_cons (pe_bltn (v := .ty "list") (by rfl) B.list (by decide +kernel) rfl) pa_nil)))))))
       (pss_cons (ps_if (pt_cmpR op_ne (pe_callB call_len (by rfl) B.len PySem.boot_len (pa_cons (pv 0) pa_nil)) (pe_callB call_len (by rfl) B.len PySem.boot_len (pa_cons (pv 1) pa_nil)) (nomark _)) (pss_one (ps_ret pe_bl)) pss_nil)
       (pss_cons (ps_for (PassesOwn.never) rfl (pi_range1 (by rfl) B.range (pa_cons (pe_callB call_len (by rfl) B.len PySem.boot_len (pa_cons (pv 1) pa_nil)) pa_nil)) (pg_name (i := 2) scSame.nd rfl (.inl rfl))
        (pss_one (ps_if (pt_not (pt_val (pe_call G_same hr (by rfl) g_same F_same.kp b_same .nil pass0 (pa_cons (pe_ix (ix_list.or ix_tup) (pv 0) (pv 2) (fun _ _ => rfl)) (pa_cons (pe_ix (ix_list.or ix_tup) (pv 1) (pv 2) (fun _ _ => rfl)) pa_nil)))))
         (pss_one (ps_ret pe_bl)) pss_nil)))
       (pss_one (ps_ret pe_bl)))) pss_nil)
      (pss_one ps_never)))))))), ?_⟩
    refine ⟨.ref b, rfl, rfl, _, rfl, iteF ?_⟩
    refine ⟨.ref b, rfl, .ref b, .ty "bool", .type "tuple", .type "bool", false, rfl, .ty "bool", ty_tup hb, kit_ty (by decide +kernel), _, rfl, iteF ?_⟩
    refine ⟨.ref b, rfl, .ref b, .ty "int", .type "tuple", .type "int", false, rfl, .ty "int", ty_tup hb, kit_ty (by decide +kernel), _, rfl, iteF ?_⟩
    refine ⟨.ref b, rfl, .ref b, .ty "str", .type "tuple", .type "str", false, rfl, .ty "str", ty_tup hb, kit_ty (by decide +kernel), _, rfl, iteF ?_⟩
    refine ⟨.ref b, rfl, .ref b, .ty "tuple", .type "tuple", .type "tuple", true, rfl, .ty "tuple", ty_tup hb, kit_ty (by decide +kernel), _, rfl, iteT ?_⟩
    refine ⟨.ref a, rfl, .ref a, .ty "tuple", .type "tuple", .type "tuple", true, rfl, .ty "tuple", (TyX.kTuple hko hkc), kit_ty (by decide +kernel), _, rfl, iteF ?_⟩
    refine ⟨.ref b, rfl, .ref b, .ty "list", .type "tuple", .type "list", false, rfl, .ty "list", ty_tup hb, kit_ty (by decide +kernel), _, rfl, iteF ?_⟩
    refine ⟨.ref b, rfl, .ref b, .ty "tuple", .type "tuple", .type "tuple", true, rfl, .ty "tuple", ty_tup hb, kit_ty (by decide +kernel), _, rfl, iteT ?_⟩
    refine ⟨.ref a, rfl, .ref a, xs.length, rfl, .inr ⟨_, ha, rfl⟩, .ref b, rfl, .ref b, xs.length, rfl, .inr ⟨_, SqT.of hb, rfl⟩, rfl, _, rfl, ?_⟩
    rw [decide_eq_true rfl]
    refine iteF ⟨.ref b, rfl, .ref b, xs.length, rfl, .inr ⟨_, SqT.of hb, rfl⟩, (xs.length : Int), rfl, by omega, by omega, ?_⟩
    rw [Int.toNat_natCast]
    refine for_range (lo := 0) (n := xs.length) (fun n σ H' => ∃ y, σ = [some (.ref a), some (.ref b), y] ∧ H' = H) ⟨none, rfl, rfl⟩ ?_ ?_
    · rintro k σ H' hk ⟨y, rfl, rfl⟩
      have e0 : (0 : Int) + (k : Int) = (k : Int) := by omega
      rw [e0]
      have g1 : xs[k]? = some (xs[k]'(by omega)) := by simp
      have g2 : xs[k]? = some (xs[k]'hk) := by simp
      refine ⟨.ref a, rfl, .int (k : Int), rfl, .inr ⟨a, xs, (k : Int), _, rfl, rfl, ha, atI_nat g1, .ref b, rfl, .int (k : Int), rfl, .inr ⟨b, xs, (k : Int), _, rfl, rfl, SqT.of hb, atI_nat g2, ?_⟩⟩⟩
      exact ⟨_, _, rfl, ⟨rfl, hall k _ g1⟩, true, rfl, iteF ⟨_, rfl, rfl⟩⟩
    · rintro σ H' ⟨y, rfl, rfl⟩
      exact q
def spLaw (K : PySem.W.Frag) : Sp := fun vs H Q _ => ∃ (a : Addr) (ns : List Int), vs = [.ref a] ∧ SqL K H a (ns.map V.int) ∧ ns.length ≤ 63 ∧ ∀ H', Q (.bl true) H'
abbrev nLaw : List Str := ["_law_script", "_law_blocks", "_law_nums", "_law_picks", "_law_cut", "_law_galley", "_law_book", "_law_state", "_law_at", "_law_part", "_law_flat_here", "_law_turn_here", "_law_due", "_law_told"]
theorem scLaw : FnScope nLaw ["_law_script"] (defScope sLaw) := ⟨rfl, rfl, rfl, by decide +kernel, rfl, by decide +kernel, by decide +kernel⟩
theorem ok_law0 {ST0 f f_init f_iadd f_beq f_world f_row f_cell f_book_of f_flat f_moves f_moves_of f_final_cost f_final f_same : Addr} {oST : Obj} {fd fd_init fd_iadd fd_beq fd_world fd_row fd_cell fd_book_of fd_flat fd_moves fd_moves_of fd_final_cost fd_final fd_same : FuncData} (B : Blt mg) (T : Gly K mg C) (M : Mk K C f_init) (S : GK P w K mg base C CN fi fl fb pp gp di dl db dp) (gST : mg "START" = some (.ref ST0)) (kST : K.lookup ST0 = some oST) (cST : oST.cls = .type "tuple") (tST : ∀ H, SqT K H ST0 [.int 0, .int 0, .int 0, .bl false]) (F : Fun K "law" "law" sLaw f fd)
    (G_init : FnOk P w K mg base (L2N.CX P w) 4 f_init fd_init pIn (spInit K C CT)) (b_init : Binds K fd_init pIn [])
    (a_iadd : RB.OpC K C "__iadd__" f_iadd) (G_iadd : FnOk P w K mg base (L2N.CX P w) 6 f_iadd fd_iadd pOt (spIadd K C CT)) (b_iadd : Binds K fd_iadd pOt [])
    (a_beq : PySem.W.findIn K (.ref CB) "__eq__" = some (some (.ref f_beq)) ∧ PySem.W.isFn K (.ref f_beq) = true) (G_beq : FnOk P w K mg base CX0 1 f_beq fd_beq Bo.pOt (Bo.spEq CB)) (b_beq : Binds K fd_beq Bo.pOt [])
    (G_sameK : FnOk P w K mg base CX0 2 f_same fd_same ["_law_one", "_law_two"] (spSameK K))
    (F_world : Fun K "_law_world" "_law_world" sWorld f_world fd_world) (b_world : Binds K fd_world pWo []) (g_world : mg "_law_world" = some (.ref f_world)) (G_world : FnOk P w K mg base CX0 3 f_world fd_world pWo (spWorld K))
    (F_row : Fun K "_law_row" "_law_row" sRow f_row fd_row) (b_row : Binds K fd_row ["_law_cell_here", "_law_limits"] []) (g_row : mg "_law_row" = some (.ref f_row)) (G_row : FnOk P w K mg base CX0 1 f_row fd_row ["_law_cell_here", "_law_limits"] (spRow K))
    (F_cell : Fun K "_law_cell" "_law_cell" sCell f_cell fd_cell) (b_cell : Binds K fd_cell ["_law_script", "_law_k"] []) (g_cell : mg "_law_cell" = some (.ref f_cell)) (G_cell : FnOk P w K mg base CX0 1 f_cell fd_cell ["_law_script", "_law_k"] (spCell K))
    (F_book_of : Fun K "_law_book_of" "_law_book_of" sBookOf f_book_of fd_book_of) (b_book_of : Binds K fd_book_of ["_law_nums"] []) (g_book_of : mg "_law_book_of" = some (.ref f_book_of)) (G_book_of : FnOk P w K mg base (L2N.CX P w) 6 f_book_of fd_book_of ["_law_nums"] (Bo.spLB CB CE))
    (F_flat : Fun K "_law_flat" "_law_flat" sFlat f_flat fd_flat) (b_flat : Binds K fd_flat ["_law_blocks"] []) (g_flat : mg "_law_flat" = some (.ref f_flat)) (G_flat : FnOk P w K mg base CX0 1 f_flat fd_flat ["_law_blocks"] spFl)
    (F_moves : Fun K "_law_moves" "_law_moves" sLawMoves f_moves fd_moves) (b_moves : Binds K fd_moves pLmo []) (g_moves : mg "_law_moves" = some (.ref f_moves)) (G_moves : FnOk P w K mg base CX0 3 f_moves fd_moves pLmo spLmo)
    (F_moves_of : Fun K "moves_of" "moves_of" sMovesOf f_moves_of fd_moves_of) (b_moves_of : Binds K fd_moves_of pMof []) (g_moves_of : mg "moves_of" = some (.ref f_moves_of)) (G_moves_of : FnOk P w K mg base CX0 7 f_moves_of fd_moves_of pMof (spMof C CB))
    (F_final_cost : Fun K "final_cost" "final_cost" sFinalCost f_final_cost fd_final_cost) (b_final_cost : Binds K fd_final_cost pMof []) (g_final_cost : mg "final_cost" = some (.ref f_final_cost)) (G_final_cost : FnOk P w K mg base CX0 7 f_final_cost fd_final_cost pMof (spFof C CB))
    (F_final : Fun K "_law_final" "_law_final" sLawFinal f_final fd_final) (b_final : Binds K fd_final pLfi []) (g_final : mg "_law_final" = some (.ref f_final)) (G_final : FnOk P w K mg base CX0 1 f_final fd_final pLfi spLfi)
    (F_same : Fun K "_law_same" "_law_same" sSame f_same fd_same) (b_same : Binds K fd_same ["_law_one", "_law_two"] []) (g_same : mg "_law_same" = some (.ref f_same)) (G_same : FnOk P w K mg base CX0 6 f_same fd_same ["_law_one", "_law_two"] (spSame 5)) : FnOk P w K mg base CX0 9 f fd ["_law_script"] (spLaw K) := by
  refine F.ok scLaw (fun vs H Q E h => ?_) (fun cdv A0 outer s H vs Q E hr h => ?_)
  · obtain ⟨a, ns, rfl, _⟩ := h; rfl
  · obtain ⟨a, ns, rfl, hS, hns, q⟩ := h
    have hr7 : Room 7 _ := hr.mono (by decide)
    have hr6 : Room 6 _ := hr.mono (by decide)
    have hr5 : Room 5 _ := hr.mono (by decide)
    have hr4 : Room 4 _ := hr.mono (by decide)
    have hr3 : Room 3 _ := hr.mono (by decide)
    have hr2 : Room 2 _ := hr.mono (by decide)
    have hr1 : Room 1 _ := hr.mono (by decide)
    refine ⟨_, (pss_cons (ps_asg (pe_call G_world hr3 (by rfl) g_world F_world.kp b_world .nil pass0 (pa_cons (pv 0) (pa_cons pe_int (pa_cons pe_int (pa_cons pe_int pa_nil))))) (pg_tup rfl (pgs_cons (pg_name (i := 1) scLaw.nd rfl (.inl rfl)) (pgs_cons (pg_name (i := 2) scLaw.nd rfl (.inl rfl)) pgs_nil))))
      (pss_cons (ps_set (i := 3) scLaw.nd rfl (.inl rfl) (pe_call G_row hr1 (by rfl) g_row F_row.kp b_row .nil pass0 (pa_cons (pe_call G_cell hr1 (by rfl) g_cell F_cell.kp b_cell .nil pass0 (pa_cons (pv 0) (pa_cons pe_int pa_nil))) (pa_cons (pe_op op_cat (pe_lst (pa_cons pe_int pa_nil)) (pe_op op_rep (pe_lst (pa_cons pe_int pa_nil)) pe_int)) pa_nil))))
      (pss_cons (ps_set (i := 4) scLaw.nd rfl (.inl rfl) (pe_op op_modN (pe_callTy call_int1 (by rfl) B.int (by decide +kernel) (pa_cons (pe_ix ix_list (pv 3) pe_int (fun _ _ => rfl)) pa_nil)) (pe_op op_add (pe_callB call_len (by rfl) B.len PySem.boot_len (pa_cons (pv 1) pa_nil)) pe_int)))
      (pss_cons (ps_par (i := 5) (j := 6) (by rfl) scLaw.nd rfl rfl (by decide) rfl rfl (pa_cons (pe_make M G_init hr5 (by rfl) T.mgC b_init .nil passNN (pa_cons (pe_slice sl_list (pv 1) po_none (po_some (pv 4))) pa_nil)) (pa_cons (pe_call G_book_of hr6 (by rfl) g_book_of F_book_of.kp b_book_of .nil passNN (pa_cons (pv 2) pa_nil)) pa_nil)) (by rfl))
      (pss_cons (ps_asg (pe_tup (pa_cons (pe_tup (pa_cons pe_int (pa_cons pe_int (pa_cons pe_int (pa_cons pe_bl pa_nil))))) (pa_cons pe_int pa_nil))) (pg_tup rfl (pgs_cons (pg_name (i := 7) scLaw.nd rfl (.inl rfl)) (pgs_cons (pg_name (i := 8) scLaw.nd rfl (.inl rfl)) pgs_nil))))
      (pss_cons (ps_if (pt_not (pt_val (pe_call G_sameK hr2 (by rfl) g_same F_same.kp b_same .nil pass0 (pa_cons (pe_glob (v := .ref ST0) (by rfl) gST rfl) (pa_cons (pv 7) pa_nil)))))
      (pss_one (ps_ret pe_bl))
      pss_nil)
      (pss_cons (ps_for (PassesOwn.never) rfl (pi_list (pe_lst (pa_cons (pe_slice sl_list (pv 1) po_none (po_some (pv 4))) (pa_cons (pe_callTy call_list_of (by rfl) B.list (by decide +kernel) (pa_cons (pv 1) pa_nil)) pa_nil)))) (pg_name (i := 9) scLaw.nd rfl (.inl rfl))
      (pss_cons (ps_set (i := 10) scLaw.nd rfl (.inl rfl) (pe_call G_flat hr1 (by rfl) g_flat F_flat.kp b_flat .nil pass0 (pa_cons (pv 9) pa_nil)))
       (Evl.pss_cut (ps_if (pt_cmpR op_lt (pe_callB (RO.call_lenOwn S.ln.1 S.ln.2 S.lnG S.lnB hr2) (by rfl) B.len PySem.boot_len (pa_cons (pv 5) pa_nil)) (pe_callB call_len (by rfl) B.len PySem.boot_len (pa_cons (pv 10) pa_nil)) (nomark _))
       (pss_one (ps_aug (i := 5) scLaw.nd rfl (.inl rfl) (pe_make M G_init hr5 (by rfl) T.mgC b_init .nil passNN (pa_cons (pe_slice sl_list (pv 1) (po_some (pv 4)) po_none) pa_nil)) (RB.ip_binO G_iadd a_iadd b_iadd hr6 passNN)))
       pss_nil)
       (pss_cons (ps_for (PassesOwn.never) rfl (pi_range1 (by rfl) B.range (pa_cons pe_int pa_nil)) (pg_name (i := 11) scLaw.nd rfl (.inl rfl))
       (pss_cons (ps_set (i := 12) scLaw.nd rfl (.inl rfl) (pe_call G_moves hr3 (by rfl) g_moves F_moves.kp b_moves .nil pass0 (pa_cons (pv 9) (pa_cons (pv 10) (pa_cons (pv 2) (pa_cons (pv 7) pa_nil))))))
        (pss_cons (ps_set (i := 13) scLaw.nd rfl (.inl rfl) (pe_call G_moves_of hr7 (by rfl) g_moves_of F_moves_of.kp b_moves_of .nil pass0 (pa_cons (pv 5) (pa_cons (pv 6) (pa_cons (pv 7) pa_nil)))))
        (pss_cons (ps_if (pt_not (pt_val (pe_call G_same hr6 (by rfl) g_same F_same.kp b_same .nil pass0 (pa_cons (pv 13) (pa_cons (pv 12) pa_nil)))))
        (pss_one (ps_ret pe_bl))
        pss_nil)
        (pss_cons (ps_expr (pe_bm PySem.F.plainAttrs_list PySem.F.slot_list_insert PySem.F.type_list_insert mt_insert (pv 13) (pa_cons pe_int (pa_cons (pv 11) pa_nil))))
        (pss_cons (ps_if (pt_not (pt_val (pe_call G_same hr6 (by rfl) g_same F_same.kp b_same .nil pass0 (pa_cons (pe_call G_moves_of hr7 (by rfl) g_moves_of F_moves_of.kp b_moves_of .nil pass0 (pa_cons (pv 5) (pa_cons (pv 6) (pa_cons (pv 7) pa_nil)))) (pa_cons (pv 12) pa_nil)))))
        (pss_one (ps_ret pe_bl))
        pss_nil)
        (pss_cons (ps_if (pt_cmpR op_eq (pe_callB call_len (by rfl) B.len PySem.boot_len (pa_cons (pv 12) pa_nil)) pe_int (nomark _))
        (pss_one ps_break)
        pss_nil)
        (pss_cons (ps_set (i := 7) scLaw.nd rfl (.inl rfl) (pe_ix ix_tup (pe_ix ix_list (pv 12) (pe_op op_modN (pe_callTy call_int1 (by rfl) B.int (by decide +kernel) (pa_cons (pe_ix ix_list (pv 3) (pv 8) (fun _ _ => rfl)) pa_nil)) (pe_callB call_len (by rfl) B.len PySem.boot_len (pa_cons (pv 12) pa_nil))) (fun _ _ => rfl)) pe_int (fun _ _ => rfl)))
        (pss_one (ps_set (i := 8) scLaw.nd rfl (.inl rfl) (pe_op op_add (pv 8) pe_int)))))))))))
       (pss_cons (ps_if (pt_cmpR op_ne (pe_ix ix_tup (pv 7) pe_int (fun _ _ => rfl)) (pe_callB call_len (by rfl) B.len PySem.boot_len (pa_cons (pv 10) pa_nil)) (nomark _))
       (pss_one (ps_ret pe_bl))
       pss_nil)
       (pss_one (ps_if (pt_not (pt_val (pe_call G_same hr6 (by rfl) g_same F_same.kp b_same .nil pass0 (pa_cons (pe_call G_final_cost hr7 (by rfl) g_final_cost F_final_cost.kp b_final_cost .nil pass0 (pa_cons (pv 5) (pa_cons (pv 6) (pa_cons (pv 7) pa_nil)))) (pa_cons (pe_call G_final hr1 (by rfl) g_final F_final.kp b_final .nil pass0 (pa_cons (pv 10) (pa_cons (pv 2) (pa_cons (pv 7) pa_nil)))) pa_nil)))))
       (pss_one (ps_ret pe_bl))
       pss_nil)))))))
      (pss_one (ps_ret (pe_and (pe_call G_same hr6 (by rfl) g_same F_same.kp b_same .nil pass0 (pa_cons (pe_callTy (RO.call_listOwnL ⟨S.it.1, S.it.2, S.itG, S.itB⟩ ⟨S.ln.1, S.ln.2, S.lnG, S.lnB⟩ rfl hr4) (by rfl) B.list (by decide +kernel) (pa_cons (pv 5) pa_nil)) (pa_cons (pv 1) pa_nil))) (pe_one (pe_cmpR (R7.op_eqOwn G_beq a_beq.1 a_beq.2 b_beq hr1 pass0) (pv 6) (pe_call G_book_of hr6 (by rfl) g_book_of F_book_of.kp b_book_of .nil passNN (pa_cons (pv 2) pa_nil)) (nomark _))))))))))))), ?_⟩
    refine ⟨.ref a, rfl, a, ns, 8, 40, 40, rfl, hS, hns, by decide, by decide, fun A1 t bl nu bs xs wide s1 ht hbl hb hbsl hpl hfl hok hw hnu gx => ?_⟩
    refine ⟨t, _, rfl, SqT.of ht, rfl, _, _, rfl, _, _, rfl, rfl, ?_⟩
    refine ⟨.ref a, rfl, a, ns, 2, rfl, Same.seq s1 hS, hns, by decide, fun c2 => ?_⟩
    refine ⟨by show 1 ≤ sizeLine; decide, fun l1 n1 => ?_⟩
    have s2 := same_new n1 (o := .lst [.int 41])
    have h1 : (upd A1 l1 (.lst [.int 41])) l1 = some (.lst [.int 41]) := upd_same
    generalize upd A1 l1 (.lst [.int 41]) = A2 at s2 h1 ⊢
    refine ⟨by show 1 ≤ sizeLine; decide, fun l2 n2 => ?_⟩
    have s3 := same_new n2 (o := .lst [.int 2520])
    have h2 : (upd A2 l2 (.lst [.int 2520])) l2 = some (.lst [.int 2520]) := upd_same
    generalize upd A2 l2 (.lst [.int 2520]) = A3 at s3 h2 ⊢
    refine ⟨l2, 40, _, rfl, rfl, h2, by decide, by decide, by show 40 ≤ sizeLine; decide, fun l3 n3 => ?_⟩
    have s4 := same_new n3 (o := .lst (List.replicate (40 : Int).toNat [V.int 2520]).flatten)
    have h3 : (upd A3 l3 (.lst (List.replicate (40 : Int).toNat [V.int 2520]).flatten)) l3 = some (.lst (List.replicate (40 : Int).toNat [V.int 2520]).flatten) := upd_same
    generalize upd A3 l3 (.lst (List.replicate (40 : Int).toNat [V.int 2520]).flatten) = A4 at s4 h3 ⊢
    refine ⟨l1, l3, _, _, rfl, rfl, s4 _ _ (s3 _ _ h1), h3, by show 41 ≤ sizeLine; decide, fun l4 n4 => ?_⟩
    have s5 := same_new n4 (o := .lst ([.int 41] ++ (List.replicate (40 : Int).toNat [V.int 2520]).flatten))
    have h4 : (upd A4 l4 (.lst ([.int 41] ++ (List.replicate (40 : Int).toNat [V.int 2520]).flatten))) l4 = some (.lst (dlims.map V.int)) := by rw [upd_same]; rfl
    generalize upd A4 l4 (.lst ([.int 41] ++ (List.replicate (40 : Int).toNat [V.int 2520]).flatten)) = A5 at s5 h4 ⊢
    refine ⟨c2, l4, dlims, rfl, SqL.of h4, by decide, by decide, fun A6 pk ds s6 nR hpk row => ?_⟩
    have hdl : ds.length = 41 := row.1
    have s16 : Same A1 A6 := s2.trans (s3.trans (s4.trans (s5.trans s6)))
    have hbl := s16 _ _ hbl
    have hb := hb.kp (Kp.of s16)
    have hnu := s16 _ _ hnu
    -- the cut
    obtain ⟨d0, e0⟩ : ∃ d, ds[0]? = some d := ⟨_, List.getElem?_eq_getElem (by omega)⟩
    have hne : ((bs.length : Nat) : Int) + 1 ≠ 0 := by omega
    have p0 : 0 ≤ d0.fmod (((bs.length : Nat) : Int) + 1) := Int.fmod_nonneg_of_pos _ (by omega)
    have p1 : d0.fmod (((bs.length : Nat) : Int) + 1) < ((bs.length : Nat) : Int) + 1 := Int.fmod_lt_of_pos _ (by omega)
    refine ⟨.ref pk, rfl, pk, _, 0, .int d0, rfl, rfl, SqL.of hpk, (by show atI _ ((0 : Nat) : Int) = _; exact atI_nat (by rw [List.getElem?_map, e0]; rfl)), .inl ⟨_, rfl, .ref bl, rfl, .ref bl, bs.length, rfl, .inl ⟨_, SqL.of hbl, (bv_len _).symm⟩, _, _, rfl, rfl, _, _, rfl, rfl, hne, ?_⟩⟩
    obtain ⟨m, hm⟩ := Int.eq_ofNat_of_zero_le p0
    rw [hm] at p1
    show gName 4 (V.int (d0.fmod (((bs.length : Nat) : Int) + 1))) _ _ _
    rw [hm]
    have hmb : m ≤ (bv bs).length := by rw [bv_len]; omega
    have eapp : bs.take m ++ bs.drop m = bs := List.take_append_drop m bs
    have epl : (pcs bs).length = (pcs (bs.take m)).length + (pcs (bs.drop m)).length := by rw [← List.length_append, ← pcs_app, eapp]
    have efl : (figs (pcs bs)).length = (figs (pcs (bs.take m))).length + (figs (pcs (bs.drop m))).length := by rw [← List.length_append, ← figs_app, ← pcs_app, eapp]
    have tl : (bs.take m).length ≤ bs.length := by rw [List.length_take]; omega
    have dl' : (bs.drop m).length ≤ bs.length := by rw [List.length_drop]; omega
    have sm0 : Small bs := ⟨by omega, by omega⟩
    have smT : Small (bs.take m) := ⟨by omega, by omega⟩
    have smD : Small (bs.drop m) := ⟨by omega, by omega⟩
    have dT : dueN (bs.take m) = 0 := due0 (by omega) (by omega)
    have dD : dueN (bs.drop m) = 0 := due0 (by omega) (by omega)
    have d0' : dueN bs = 0 := due0 (by omega) (by omega)
    have eT : cutV (bv bs) none (some (m : Int)) = bv (bs.take m) := by rw [cutV_to _ hmb]; unfold bv; rw [List.map_take]
    have eD : cutV (bv bs) (some (m : Int)) none = bv (bs.drop m) := by rw [cutV_from _ hmb]; unfold bv; rw [List.map_drop]
    have FB := bfacts hok
    have FT := bfacts (m := wide) (bs := bs.take m) fun b hb => hok b (List.mem_of_mem_take hb)
    -- galley and book
    refine ⟨.ref bl, rfl, .int (m : Int), rfl, (m : Int), rfl, bl, _, rfl, SqL.of hbl, fun z nz => ?_⟩
    rw [eT]
    have s7 := same_new nz (o := .lst (bv (bs.take m)))
    have hz : (upd A6 z (.lst (bv (bs.take m)))) z = some (.lst (bv (bs.take m))) := upd_same
    generalize upd A6 z (.lst (bv (bs.take m))) = A7 at s7 hz ⊢
    intro p dx np ndx hne
    have sM : Same A7 (upd (upd A7 dx (.own p)) p (.ins C dx [])) := made_up np ndx
    refine ⟨p, dx, z, bs.take m, rfl, upd_same, .inl (sM _ _ hz), fun b hb' => ((hb.kp (Kp.of s7)).kp (Kp.of sM)) b (List.mem_of_mem_take hb'), smT, fun z => absurd z (by omega), fun _ A8 l hk hF g => ⟨rfl, ?_⟩⟩
    have s8 := s7.trans (made_same np ndx hk)
    clear hF sM hk
    refine ⟨.ref nu, rfl, nu, xs, rfl, s8 _ _ hnu, gx.1, gx.odd, (fun k hk => absurd (gx.nobad.symm.trans hk) (fun z => nomatch z)), fun _ A9 bk s9 nbk hbk => ?_⟩
    refine ⟨_, _, rfl, ?_⟩
    have s89 := s8.trans s9
    have L : LB CB A9 bl nu pk bk bs xs ds := ⟨s89 _ _ hbl, hb.kp (Kp.of s89), s89 _ _ hnu, s89 _ _ hpk, hbk⟩
    have g := g.same s9
    clear hbl hb hnu hpk hbk
    -- the start
    refine ⟨by show 4 ≤ sizeLine; decide, fun s0 ns0 => ?_⟩
    have s10 := same_new ns0 (o := .tup [.int 0, .int 0, .int 0, .bl false])
    have hs0 : (upd A9 s0 (.tup [.int 0, .int 0, .int 0, .bl false])) s0 = some (.tup [.int 0, .int 0, .int 0, .bl false]) := upd_same
    generalize upd A9 s0 (.tup [.int 0, .int 0, .int 0, .bl false]) = B1 at s10 hs0 ⊢
    refine ⟨by show 2 ≤ sizeLine; decide, fun o no => ?_⟩
    have s11 := same_new no (o := .tup [.ref s0, .int 1])
    have ho : (upd B1 o (.tup [.ref s0, .int 1])) o = some (.tup [.ref s0, .int 1]) := upd_same
    generalize upd B1 o (.tup [.ref s0, .int 1]) = B2 at s11 ho ⊢
    refine ⟨o, _, rfl, SqT.of ho, rfl, _, _, rfl, _, _, rfl, rfl, ?_⟩
    have hs0 := s11 _ _ hs0
    have s911 := s10.trans s11
    have L := L.same s911
    have g := g.same s911
    refine ⟨.ref s0, rfl, ST0, s0, _, oST, rfl, kST, cST, tST _, hs0, by show 4 ≤ 1000; decide, fun i v hv => ?_, true, rfl, iteF ?_⟩
    · have hc : v = .int 0 ∨ v = .int 0 ∨ v = .int 0 ∨ v = .bl false := by simpa using List.mem_of_getElem? hv
      rcases hc with rfl | rfl | rfl | rfl
      · exact li _
      · exact li _
      · exact li _
      · exact lb _
    -- the two parts
    refine ⟨.ref bl, rfl, .int (m : Int), rfl, (m : Int), rfl, bl, _, rfl, SqL.of L.hbl, fun z1 nz1 => ?_⟩
    rw [eT]
    have s12 := same_new nz1 (o := .lst (bv (bs.take m)))
    have hz1 : (upd B2 z1 (.lst (bv (bs.take m)))) z1 = some (.lst (bv (bs.take m))) := upd_same
    generalize upd B2 z1 (.lst (bv (bs.take m))) = B3 at s12 hz1 ⊢
    refine ⟨.ref bl, rfl, bl, bv bs, rfl, .inl (SqL.of (s12 _ _ L.hbl)), fun z2 nz2 => ?_⟩
    have s13 := same_new nz2 (o := .lst (bv bs))
    have hz2 : (upd B3 z2 (.lst (bv bs))) z2 = some (.lst (bv bs)) := upd_same
    generalize upd B3 z2 (.lst (bv bs)) = B4 at s13 hz2 ⊢
    refine ⟨by show 2 ≤ sizeLine; decide, fun zz nzz => ?_⟩
    have s14 := same_new nzz (o := .lst [.ref z1, .ref z2])
    have hzz : (upd B4 zz (.lst [.ref z1, .ref z2])) zz = some (.lst [.ref z1, .ref z2]) := upd_same
    generalize upd B4 zz (.lst [.ref z1, .ref z2]) = B5 at s14 hzz ⊢
    have s25 := s12.trans (s13.trans s14)
    have L := L.same s25
    have g := g.same s25
    have hs0 : StT B5 s0 0 0 0 false := s25 _ _ hs0
    have hz1 := s14 _ _ (s13 _ _ hz1)
    have hz2 := s14 _ _ hz2
    refine ⟨zz, rfl, ⟨_, SqL.of hzz⟩, for_list (K := K) (a := zz) (xs := [.ref z1, .ref z2]) (fun i σ H' => ∃ (s0 : Addr) (d at' : Nat) (us : Int) (pl : Nat) (fi : Bool) (l : L3) (y9 y10 y11 y12 y13 : Option V), σ = [some (.ref a), some (.ref bl), some (.ref nu), some (.ref pk), some (.int (m : Int)), some (.ref p), some (.ref bk), some (.ref s0), some (.int (at' : Int)), y9, y10, y11, y12, y13] ∧ LB CB H' bl nu pk bk bs xs ds ∧ H' zz = some (.lst [.ref z1, .ref z2]) ∧ H' z1 = some (.lst (bv (bs.take m))) ∧ H' z2 = some (.lst (bv bs)) ∧ GalA C H' p l (if i ≤ 1 then bs.take m else bs) ∧ StT H' s0 d us pl fi ∧ (i ≤ 1 → d ≤ (pcs (bs.take m)).length) ∧ 0 ≤ us ∧ pl ≤ calN bs d ∧ at' ≤ 1 + d)
      ⟨s0, 0, 1, 0, 0, false, l, none, none, none, none, none, rfl, L, hzz, hz1, hz2, g, hs0, fun _ => Nat.zero_le _, Int.le_refl _, Nat.zero_le _, Nat.le_refl _⟩ (fun i σ H' _ ⟨_, _, _, _, _, _, _, _, _, _, _, _, _, _, hh, _⟩ => SqL.of hh) ?_ ?_⟩
    · rintro i x σ H1 hi ⟨s0, d0, at0, us0, pl0, fi0, l, y9, y10, y11, y12, y13, rfl, L, hzz, hz1, hz2, g, hst0, hd0, hus0, hpl0, hat0⟩
      have hi2 : i < 2 := (List.getElem?_eq_some_iff.mp hi).1
      rw [if_pos (by omega : i ≤ 1)] at g
      have hd0 := hd0 (by omega)
      obtain ⟨za, pb, rfl, hza, hpb⟩ : ∃ za pb, x = .ref za ∧ H1 za = some (.lst (bv pb)) ∧ ((i = 0 ∧ pb = bs.take m) ∨ (i = 1 ∧ pb = bs)) := by
        match i, hi2 with
        | 0, _ => cases hi; exact ⟨z1, _, rfl, hz1, .inl ⟨rfl, rfl⟩⟩
        | 1, _ => cases hi; exact ⟨z2, _, rfl, hz2, .inr ⟨rfl, rfl⟩⟩
      have hbT : BsT H1 (bs.take m) := fun b hb => L.hb b (List.mem_of_mem_take hb)
      obtain ⟨hbp, smp, FP, hlp, hfp, hdp, hcp, hcal⟩ : BsT H1 pb ∧ Small pb ∧ BFacts pb ∧ (pcs pb).length ≤ 40 ∧ (figs (pcs pb)).length ≤ 4 ∧ d0 ≤ (pcs pb).length ∧ pl0 ≤ calN pb d0 ∧ (∀ d, d ≤ (pcs pb).length → calN pb d = calN bs d) := by
        rcases hpb with ⟨_, rfl⟩ | ⟨_, rfl⟩
        · exact ⟨hbT, smT, FT, by omega, by omega, hd0, by rw [calN_take hd0]; exact hpl0, fun d hd => calN_take hd⟩
        · exact ⟨L.hb, sm0, FB, by omega, by omega, by omega, hpl0, fun d _ => rfl⟩
      refine ⟨.ref za, rfl, za, pb, rfl, hza, hbp, smp, fun H2 fa fs s2 nfa hfa hT => ?_⟩
      have g2 := g.same s2
      have L2' := L.same s2
      obtain ⟨dxg, hpg⟩ := g2.ins
      have hfl : fs.length = (pcs pb).length := hT.1
      refine ⟨fun σ' H' => ∃ l', σ' = [some (.ref a), some (.ref bl), some (.ref nu), some (.ref pk), some (.int (m : Int)), some (.ref p), some (.ref bk), some (.ref s0), some (.int (at0 : Int)), some (.ref za), some (.ref fa), y11, y12, y13] ∧ Bt p H2 H' ∧ GalA C H' p l' pb, ?_, ?_⟩
      · refine ⟨.ref p, rfl, p, dxg, fs3 l, (pcs (bs.take m)).length, rfl, hpg, by rw [sizeLine_eq]; omega, ⟨p, l, _, rfl, g2, rfl, rfl⟩, .ref fa, rfl, .ref fa, fs.length, rfl, .inl ⟨_, SqL.of hfa, rfl⟩, _, _, rfl, rfl, _, rfl, ite2 (fun h => ?_) (fun h => ?_)⟩
        · have h := of_decide_eq_true h
          have hpb2 : pb = bs := by
            rcases hpb with ⟨_, e⟩ | ⟨_, e⟩
            · rw [hfl, e] at h; omega
            · exact e
          subst hpb2
          refine ⟨.ref p, rfl, .ref bl, rfl, .int (m : Int), rfl, (m : Int), rfl, bl, _, rfl, SqL.of L2'.hbl, fun z3 nz3 => ?_⟩
          rw [eD]
          have s3 := same_new nz3 (o := .lst (bv (pb.drop m)))
          have hz3 : (upd H2 z3 (.lst (bv (pb.drop m)))) z3 = some (.lst (bv (pb.drop m))) := upd_same
          generalize upd H2 z3 (.lst (bv (pb.drop m))) = H3 at s3 hz3 ⊢
          have L3' := L2'.same s3
          intro p2 dx2 np2 ndx2 hne2
          have sM : Same H3 (upd (upd H3 dx2 (.own p2)) p2 (.ins C dx2 [])) := made_up np2 ndx2
          refine ⟨p2, dx2, z3, pb.drop m, rfl, upd_same, .inl (sM _ _ hz3), fun b hb => (L3'.hb.kp (Kp.of sM)) b (List.mem_of_mem_drop hb), smD, fun z => absurd z (by omega), fun _ H4 l2 hk hF g4 => ⟨rfl, ?_⟩⟩
          have s4 := made_same np2 ndx2 hk
          have gg := g2.same (s3.trans s4)
          obtain ⟨dx3, hp3⟩ := gg.ins
          obtain ⟨dx4, hp4⟩ := g4.ins
          refine ⟨p, p2, dx3, _, dx4, _, rfl, rfl, hp3, hp4, p, p2, l, l2, pb.take m, pb.drop m, rfl, gg, g4, by rw [eapp]; exact sm0, fun z => absurd z (by rw [eapp]; omega), fun _ H5 l3 hk5 g5 => ⟨⟨p, rfl⟩, ?_⟩⟩
          rw [eapp] at g5
          exact ⟨l3, rfl, fun b o n h => hk5 b o n (s4 _ _ (s3 _ _ h)), g5⟩
        · refine ⟨l, rfl, Bt.refl _ _, ?_⟩
          rcases hpb with ⟨_, e⟩ | ⟨_, e⟩
          · rw [e]; exact g2
          · have h : ¬ (pcs (bs.take m)).length < (pcs bs).length := fun z => h (decide_eq_true (by rw [hfl, e]; omega))
            have hdr : bs.drop m = [] := by
              cases hc : bs.drop m with
              | nil => rfl
              | cons b r =>
                have h1 := FB.one b (List.mem_of_mem_drop (by rw [hc]; exact List.mem_cons_self))
                have h2 : (pcs (bs.drop m)).length = b.ps.length + (pcs r).length := by rw [hc]; show (b.ps ++ pcs r).length = _; rw [List.length_append]
                omega
            rw [hdr, List.append_nil] at eapp
            rw [e, ← eapp]; exact g2
      rintro σ' H3 ⟨l', rfl, b3, g3⟩
      have L3' := L2'.but gx hpg b3
      have ne : ∀ {a : Addr} {ys : List V}, H2 a = some (.lst ys) → a ≠ p := fun h e => by rw [e, hpg] at h; cases h
      have kp3 : Kp H2 H3 := Kp.but hpg (fun z => z) b3
      have hza3 := b3 _ _ (ne (s2 _ _ hza)) (s2 _ _ hza)
      have hfa3 := b3 _ _ (ne hfa) hfa
      have fl3 : FlA H3 za fa pb fs := ⟨hza3, (hbp.kp (Kp.of s2)).kp kp3, hfa3, hT.kp kp3⟩
      have hst3 : StT H3 s0 d0 us0 pl0 fi0 := kp3.tup (s2 _ _ hst0)
      have hzz3 := b3 _ _ (ne (s2 _ _ hzz)) (s2 _ _ hzz)
      have hz13 := b3 _ _ (ne (s2 _ _ hz1)) (s2 _ _ hz1)
      have hz23 := b3 _ _ (ne (s2 _ _ hz2)) (s2 _ _ hz2)
      refine ⟨41, rfl, by decide, by decide, ?_⟩
      rw [show (41 : Int).toNat = 41 from rfl]
      refine for_range (lo := 0) (n := 41) (fun t σ H' => ∃ (s0 : Addr) (d at' : Nat) (us : Int) (pl : Nat) (fi : Bool) (y11 y12 y13 : Option V), σ = [some (.ref a), some (.ref bl), some (.ref nu), some (.ref pk), some (.int (m : Int)), some (.ref p), some (.ref bk), some (.ref s0), some (.int (at' : Int)), some (.ref za), some (.ref fa), y11, y12, y13] ∧ Same H3 H' ∧ StT H' s0 d us pl fi ∧ t ≤ d ∧ d ≤ (pcs pb).length ∧ 0 ≤ us ∧ pl ≤ calN pb d ∧ at' ≤ 1 + d) ⟨s0, d0, at0, us0, pl0, fi0, y11, y12, y13, rfl, Same.refl _, hst3, Nat.zero_le _, hdp, hus0, hcp, hat0⟩ ?_ ?_
      · rintro t σ H4 ht ⟨s0, d, at', us, pl, fi, y11, y12, y13, rfl, s4, hst, htd, hdl', hus, hpl', hat⟩
        have e0 : (0 : Int) + (t : Int) = (t : Int) := by omega
        rw [e0]
        refine ⟨.ref za, rfl, .ref fa, rfl, .ref nu, rfl, .ref s0, rfl, za, fa, nu, s0, pb, fs, xs, d, us, pl, fi, rfl, ⟨fl3.same s4, s4 _ _ L3'.hnu, gx, smp, FP.nn, FP.b0, hst, hdl', hus, hpl', hfp⟩, fun H5 r1 ts1 s5 nr1 hr1 hl1 hm1 => ?_⟩
        have s45 := s4.trans s5
        have hst5 : StT H5 s0 d us pl fi := s5 _ _ hst
        refine ⟨.ref p, rfl, .ref bk, rfl, .ref s0, rfl, p, bk, s0, l', pb, xs, d, us, pl, fi, rfl, ⟨g3.same s45, L3'.hbk.same s45, gx, smp, fun q hq => (FP.nn q hq).1, FP.b0, hst5, hdl', hus, hpl', hfp, FP.ca⟩, fun H6 r2 ts2 s6 nr2 hr2 hm2 => ?_⟩
        have hr16 := s6 _ _ hr1
        have hm16 := hm1.kp (Kp.of s6)
        have hl1' : ts1.length ≤ 1000 := by omega
        refine ⟨.ref r2, rfl, .ref r1, rfl, .ref r2, .ref r1, rfl, same_up (same_up (ms_same hr2 hr16 hm2 hm16 hl1')), true, rfl, iteF ?_⟩
        have hl2 : ts2.length ≤ 1000 := by rw [hm2.1, ← hm1.1]; exact hl1'
        refine ⟨.ref r2, rfl, .inl ⟨rfl, _, SqL.of hr2⟩, .int (t : Int), rfl, r2, rv ts2, 0, .int (t : Int), rfl, rfl, hr2, (by rw [rv_len]; exact small1000 hl2), by decide, by decide, ?_⟩
        have nr12 : r1 ≠ r2 := ne_of_none hr1 nr2
        have k7 : Bt r2 H6 (upd H6 r2 (.lst ((rv ts2).take (0 : Int).toNat ++ [.int (t : Int)] ++ (rv ts2).drop (0 : Int).toNat))) := upd_but
        have kp7 : Kp H6 (upd H6 r2 (.lst ((rv ts2).take (0 : Int).toNat ++ [.int (t : Int)] ++ (rv ts2).drop (0 : Int).toNat))) := Kp.but hr2 (fun z => z) k7
        have s7 : Same H5 (upd H6 r2 (.lst ((rv ts2).take (0 : Int).toNat ++ [.int (t : Int)] ++ (rv ts2).drop (0 : Int).toNat))) := same_at s6 nr2
        have hr17 := k7 _ _ nr12 hr16
        generalize upd H6 r2 (.lst ((rv ts2).take (0 : Int).toNat ++ [.int (t : Int)] ++ (rv ts2).drop (0 : Int).toNat)) = H7 at k7 kp7 s7 hr17 ⊢
        have s47 := s45.trans s7
        have hm17 := hm16.kp kp7
        refine ⟨.ref p, rfl, .ref bk, rfl, .ref s0, rfl, p, bk, s0, l', pb, xs, d, us, pl, fi, rfl, ⟨g3.same s47, L3'.hbk.same s47, gx, smp, fun q hq => (FP.nn q hq).1, FP.b0, s7 _ _ hst5, hdl', hus, hpl', hfp, FP.ca⟩, fun H8 r3 ts3 s8 nr3 hr3 hm3 => ?_⟩
        have hr18 := s8 _ _ hr17
        have hm18 := hm17.kp (Kp.of s8)
        have s48 := s47.trans s8
        have hst8 : StT H8 s0 d us pl fi := s8 _ _ (s7 _ _ hst5)
        refine ⟨.ref r1, rfl, .ref r3, .ref r1, rfl, same_up (same_up (ms_same hr3 hr18 hm3 hm18 hl1')), true, rfl, iteF ?_⟩
        refine ⟨.ref r1, rfl, .ref r1, ts1.length, rfl, .inl ⟨_, SqL.of hr18, (rv_len _).symm⟩, rfl, _, rfl, ite2 (fun h => ?_) (fun h => ?_)⟩
        · have h0 : ts1.length = 0 := by have := V.int.inj (of_decide_eq_true h); omega
          have hdd : d = (pcs pb).length := by
            refine Decidable.byContradiction fun z => moves_some (xs := xs) (bs := pb) (d := d) (us := us) (pl := pl) (fi := fi) (by omega) ?_
            exact List.length_eq_zero_iff.mp (by rw [← hm1.1]; exact h0)
          have hfa8 := s48 _ _ hfa3
          refine ⟨.ref s0, rfl, s0, _, 0, .int (d : Int), rfl, rfl, SqT.of hst8, rfl, .ref fa, rfl, .ref fa, fs.length, rfl, .inl ⟨_, SqL.of hfa8, rfl⟩, rfl, _, rfl, ?_⟩
          have e9 : V.int (d : Int) = V.int (fs.length : Int) := congrArg V.int (by omega)
          rw [decide_eq_true e9]
          refine iteF ?_
          refine ⟨.ref p, rfl, .ref bk, rfl, .ref s0, rfl, p, bk, s0, l', pb, xs, d, us, pl, fi, rfl, ⟨g3.same s48, L3'.hbk.same s48, gx, smp, fun q hq => (FP.nn q hq).1, FP.b0, hst8, hdl', hus, hpl', hfp, FP.ca⟩, fun H9 s9 => ?_⟩
          have s49 := s48.trans s9
          refine ⟨.ref fa, rfl, .ref nu, rfl, .ref s0, rfl, za, fa, nu, s0, pb, fs, xs, d, us, pl, fi, rfl, fl3.same s49, s49 _ _ L3'.hnu, gx, smp, s9 _ _ hst8, fun H10 s10' => ⟨.int _, .int _, rfl, leaf_same (li _), true, rfl, iteF ?_⟩⟩
          have s410 := s49.trans s10'
          refine ⟨s0, d, at', us, pl, fi, l', _, _, _, _, _, rfl, L3'.same s410, s410 _ _ hzz3, s410 _ _ hz13, s410 _ _ hz23, ?_, s10' _ _ (s9 _ _ hst8), ?_, hus, by rw [← hcal d hdl']; exact hpl', hat⟩
          · rcases hpb with ⟨e1, e2⟩ | ⟨e1, e2⟩
            · rw [if_pos (by omega), ← e2]; exact g3.same s410
            · rw [if_neg (by omega), ← e2]; exact g3.same s410
          · intro h2
            rcases hpb with ⟨e1, e2⟩ | ⟨e1, e2⟩
            · rw [← e2]; omega
            · omega
        · have h0 : 0 < ts1.length := Nat.pos_of_ne_zero fun z => h (by rw [z]; rfl)
          have hdd : d < (pcs pb).length := by
            refine Decidable.byContradiction fun z => ?_
            have e1 := hm1.1
            rw [movesM_end (by omega)] at e1
            have e1 : ts1.length = 0 := e1
            omega
          obtain ⟨v, ev⟩ : ∃ v, ds[at']? = some v := ⟨_, List.getElem?_eq_getElem (by omega)⟩
          have hne2 : (ts1.length : Int) ≠ 0 := by omega
          have q0 : 0 ≤ v.fmod (ts1.length : Int) := Int.fmod_nonneg_of_pos _ (by omega)
          have q1 : v.fmod (ts1.length : Int) < (ts1.length : Int) := Int.fmod_lt_of_pos _ (by omega)
          obtain ⟨n, hn⟩ := Int.eq_ofNat_of_zero_le q0
          rw [hn] at q1
          obtain ⟨tm, etm⟩ : ∃ x, ts1[n]? = some x := ⟨_, List.getElem?_eq_getElem (by omega)⟩
          obtain ⟨mo, emo⟩ : ∃ x, (movesM xs pb d us pl fi)[n]? = some x := ⟨_, List.getElem?_eq_getElem (by rw [← hm1.1]; omega)⟩
          obtain ⟨ti, tu, a1, a2, a3⟩ := hm18.2 n tm mo etm emo
          obtain ⟨m1, m2, m3, m4⟩ := moves_mem FP hus hpl' (List.mem_of_getElem? emo)
          refine ⟨.ref r1, rfl, .ref pk, rfl, .int (at' : Int), rfl, pk, _, _, .int v, rfl, rfl, SqL.of (s48 _ _ L3'.hpk), atI_nat (by rw [List.getElem?_map, ev]; rfl), .inl ⟨_, rfl, .ref r1, rfl, .ref r1, ts1.length, rfl, .inl ⟨_, SqL.of hr18, (rv_len _).symm⟩, _, _, rfl, rfl, hne2, r1, _, _, .ref tm, rfl, rfl, SqL.of hr18, (by rw [hn]; exact atI_nat (by unfold rv; rw [List.getElem?_map, etm]; rfl)), tm, _, 2, .ref tu, rfl, rfl, SqT.of a1, rfl, ?_⟩⟩
          refine ⟨.int (at' : Int), rfl, _, _, rfl, rfl, tu, mo.en, at' + 1, mo.us, mo.pl, mo.bg, some (.int (t : Int)), some (.ref r1), some (.ref r2), congrArg (fun z : Int => [some (V.ref a), some (V.ref bl), some (V.ref nu), some (V.ref pk), some (V.int (m : Int)), some (V.ref p), some (V.ref bk), some (V.ref tu), some (V.int z), some (V.ref za), some (V.ref fa), some (V.int (t : Int)), some (V.ref r1), some (V.ref r2)]) (by omega), s48, a3, by omega, m2, m3, m4, by omega⟩
      · rintro σ H4 ⟨s0, d, at', us, pl, fi, y11, y12, y13, rfl, s4, hst, htd, hdl', _⟩
        omega
    · rintro σ H1 ⟨s0, d, at', us, pl, fi, l, y9, y10, y11, y12, y13, rfl, L, hzz, hz1, hz2, g4, _⟩
      rw [if_neg (by show ¬ (2 : Nat) ≤ 1; omega)] at g4
      obtain ⟨dx5, os, h1', h2', h3', h4', h5', h6'⟩ := id g4
      refine ⟨.ref p, rfl, p, dx5, l.1, fs3 l, bv bs, (pcs bs).length, rfl, h1', lk1 l, h2', by rw [bv_len]; omega, by rw [sizeLine_eq]; omega, fun H' s' => ⟨p, l, bs, rfl, g4.same s', rfl, rfl⟩, fun r nr => ?_⟩
      have s28 := same_new nr (o := .lst (bv bs))
      have L2' := L.same s28
      refine ⟨.ref bl, rfl, .ref r, .ref bl, rfl, bs_same L2'.hb upd_same L2'.hbl (by omega), _, rfl, iteT ?_⟩
      refine ⟨.ref bk, rfl, .ref nu, rfl, nu, xs, rfl, L2'.hnu, gx.1, gx.odd, (fun k hk => absurd (gx.nobad.symm.trans hk) (fun z => nomatch z)), fun _ A29 b2 s29 nb2 hB2 => ?_⟩
      have hB1 := (L2'.same s29).hbk
      obtain ⟨dy, wy, i1, _⟩ := id hB1
      obtain ⟨dz, wz, i2, _⟩ := id hB2
      refine ⟨bk, dy, _, b2, dz, _, rfl, rfl, i1, i2, bk, b2, xs, xs, rfl, hB1, hB2, gx, gx, _, rfl, ?_⟩
      rw [decide_eq_true rfl]
      exact q _
end
end K37

set_option maxRecDepth 100000
set_option maxHeartbeats 8000000
namespace K37
open PySem PySem.Spec PyProof.Rows L2
section
variable {P : Program} {w : World} {K : PySem.W.Frag} {mg : Str → Option Value} {base : Heap} {t1 t2 t3 t4 : Tok}
theorem ok_law {C CB CS CT CN CE FT ND ST0 d0 fT fN fE f_init f_binit f_sinit f f_len f_iter f_iadd f_pcs pp f_fgs pf f_block f_beq f_is_final f_sfinal_cost f_lines_from f_found_lines f_moves f_moves_with f_opening_cost f_free_height f_is_behind_keep f_gap_in f_price_of_line f_moves_of f_final_cost f_check f_pieces f_figures f_owners f_sizes f_cell f_row f_same f_made_piece f_made_blocks f_merged f_world f_book_of f_flat f_width f_line_cost f_need f_turn f_lmoves f_lfinal : Addr} {mc u : Value} {oST : Obj} {fdT fdN fdE fd_init fd_binit fd_sinit fd fd_len fd_iter fd_iadd fd_pcs fd_fgs fd_block fd_beq fd_is_final fd_sfinal_cost fd_lines_from fd_found_lines fd_moves fd_moves_with fd_opening_cost fd_free_height fd_is_behind_keep fd_gap_in fd_price_of_line fd_moves_of fd_final_cost fd_check fd_pieces fd_figures fd_owners fd_sizes fd_cell fd_row fd_same fd_made_piece fd_made_blocks fd_merged fd_world fd_book_of fd_flat fd_width fd_line_cost fd_need fd_turn fd_lmoves fd_lfinal : FuncData} (B : Blt mg) (Z : Cst mg t1 t2) (ZT : CsT mg t3 t4) (T : Gly K mg C) (M : Mk K C f_init) (FI : InitD K d0 f_init fd_init) (TB : Bo.Bok K mg CB FT mc u) (IB : Bo.BkI K CB) (MB : Mk K CB f_binit) (FB : Bo.InitD K f_binit fd_binit) (TS : Stp K mg CS) (MS : Mk K CS f_sinit) (NT : TlE K mg CT fT fdT) (NN : NnE K mg CN fN fdN) (NB : BbE K mg CE fE fdE) (N : Bo.Num K w ND) (gN : mg "NUMBER_RANGES" = some (.ref ND)) (gST : mg "START" = some (.ref ST0)) (kST : K.lookup ST0 = some oST) (cST : oST.cls = .type "tuple") (tST : ∀ H, SqT K H ST0 [.int 0, .int 0, .int 0, .bl false]) (hcd : ∃ cd rest, PySem.W.clsIn K C = some cd ∧ cd.mro = .ref C :: rest) (F : Fun K "law" "law" sLaw f fd)
    (F_len : Fun K "__len__" "Galley.__len__" sLen f_len fd_len) (b_len : Binds K fd_len ["self"] []) (a_len : PySem.W.findIn K (.ref C) "__len__" = some (some (.ref f_len)) ∧ PySem.W.typeIn K (.ref f_len) = some (.type "function"))
    (F_iter : Fun K "__iter__" "Galley.__iter__" sIter f_iter fd_iter) (b_iter : Binds K fd_iter ["self"] []) (a_iter : PySem.W.findIn K (.ref C) "__iter__" = some (some (.ref f_iter)) ∧ PySem.W.isFn K (.ref f_iter) = true)
    (F_iadd : Fun K "__iadd__" "Galley.__iadd__" sIadd f_iadd fd_iadd) (b_iadd : Binds K fd_iadd pOt []) (a_iadd : PySem.W.findIn K (.ref C) "__iadd__" = some (some (.ref f_iadd)) ∧ PySem.W.typeIn K (.ref f_iadd) = some (.type "function"))
    (F_pcs : Fun K "pieces" "Galley.pieces" sPcs f_pcs fd_pcs) (b_pcs : Binds K fd_pcs ["self"] []) (p_pcs : PropOf K C "pieces" pp f_pcs)
    (F_fgs : Fun K "figures" "Galley.figures" sFigs f_fgs fd_fgs) (b_fgs : Binds K fd_fgs ["self"] []) (p_fgs : PropOf K C "figures" pf f_fgs)
    (F_block : Fun K "block_at" "Galley.block_at" sBlock f_block fd_block) (b_block : Binds K fd_block pBl []) (m_block : Meth K C "block_at" f_block)
    (F_beq : Fun K "__eq__" "Book.__eq__" Bo.sEq f_beq fd_beq) (b_beq : Binds K fd_beq Bo.pOt []) (a_beq : PySem.W.findIn K (.ref CB) "__eq__" = some (some (.ref f_beq)) ∧ PySem.W.isFn K (.ref f_beq) = true)
    (F_sinit : Fun K "__init__" "Steps.__init__" sSInit f_sinit fd_sinit) (b_sinit : Binds K fd_sinit pSI [])
    (F_is_final : Fun K "is_final" "Steps.is_final" sSFinal f_is_final fd_is_final) (b_is_final : Binds K fd_is_final pSs []) (m_is_final : Meth K CS "is_final" f_is_final)
    (F_sfinal_cost : Fun K "final_cost" "Steps.final_cost" sSCost f_sfinal_cost fd_sfinal_cost) (b_sfinal_cost : Binds K fd_sfinal_cost pSs []) (m_sfinal_cost : Meth K CS "final_cost" f_sfinal_cost)
    (F_lines_from : Fun K "lines_from" "Steps.lines_from" sSLines f_lines_from fd_lines_from) (b_lines_from : Binds K fd_lines_from ["self", "start"] []) (m_lines_from : Meth K CS "lines_from" f_lines_from)
    (F_found_lines : Fun K "_found_lines" "Steps._found_lines" sSFound f_found_lines fd_found_lines) (b_found_lines : Binds K fd_found_lines ["self", "start"] []) (m_found_lines : Meth K CS "_found_lines" f_found_lines)
    (F_moves : Fun K "moves" "Steps.moves" sSMoves f_moves fd_moves) (b_moves : Binds K fd_moves pSs []) (m_moves : Meth K CS "moves" f_moves)
    (F_moves_with : Fun K "_moves_with" "Steps._moves_with" sSWith f_moves_with fd_moves_with) (b_moves_with : Binds K fd_moves_with pMw []) (m_moves_with : Meth K CS "_moves_with" f_moves_with)
    (F_opening_cost : Fun K "_opening_cost" "Steps._opening_cost" sSOpen f_opening_cost fd_opening_cost) (b_opening_cost : Binds K fd_opening_cost pOp []) (m_opening_cost : Meth K CS "_opening_cost" f_opening_cost)
    (F_free_height : Fun K "free_height" "Steps.free_height" sSFree f_free_height fd_free_height) (b_free_height : Binds K fd_free_height pSs []) (m_free_height : Meth K CS "free_height" f_free_height)
    (F_is_behind_keep : Fun K "is_behind_keep" "Steps.is_behind_keep" sSKeep f_is_behind_keep fd_is_behind_keep) (b_is_behind_keep : Binds K fd_is_behind_keep pSs []) (m_is_behind_keep : Meth K CS "is_behind_keep" f_is_behind_keep)
    (F_gap_in : Fun K "gap_in" "gap_in" sGapIn f_gap_in fd_gap_in) (b_gap_in : Binds K fd_gap_in pGi []) (g_gap_in : mg "gap_in" = some (.ref f_gap_in))
    (F_price_of_line : Fun K "price_of_line" "price_of_line" sPrice f_price_of_line fd_price_of_line) (b_price_of_line : Binds K fd_price_of_line pPr []) (g_price_of_line : mg "price_of_line" = some (.ref f_price_of_line))
    (F_moves_of : Fun K "moves_of" "moves_of" sMovesOf f_moves_of fd_moves_of) (b_moves_of : Binds K fd_moves_of pMof []) (g_moves_of : mg "moves_of" = some (.ref f_moves_of))
    (F_final_cost : Fun K "final_cost" "final_cost" sFinalCost f_final_cost fd_final_cost) (b_final_cost : Binds K fd_final_cost pMof []) (g_final_cost : mg "final_cost" = some (.ref f_final_cost))
    (F_check : Fun K "_check_field" "_check_field" sCheck f_check fd_check) (b_check : Binds K fd_check Bo.pCk []) (g_check : mg "_check_field" = some (.ref f_check))
    (F_pieces : Fun K "_pieces_of" "_pieces_of" sPieces f_pieces fd_pieces) (b_pieces : Binds K fd_pieces ["blocks"] []) (g_pieces : mg "_pieces_of" = some (.ref f_pieces))
    (F_figures : Fun K "_figures_of" "_figures_of" sFigures f_figures fd_figures) (b_figures : Binds K fd_figures ["pieces"] []) (g_figures : mg "_figures_of" = some (.ref f_figures))
    (F_owners : Fun K "_owners_of" "_owners_of" sOwners f_owners fd_owners) (b_owners : Binds K fd_owners ["blocks"] []) (g_owners : mg "_owners_of" = some (.ref f_owners))
    (F_sizes : Fun K "_check_sizes" "_check_sizes" sSizes f_sizes fd_sizes) (b_sizes : Binds K fd_sizes ["blocks"] []) (g_sizes : mg "_check_sizes" = some (.ref f_sizes))
    (F_cell : Fun K "_law_cell" "_law_cell" sCell f_cell fd_cell) (b_cell : Binds K fd_cell ["_law_script", "_law_k"] []) (g_cell : mg "_law_cell" = some (.ref f_cell))
    (F_row : Fun K "_law_row" "_law_row" sRow f_row fd_row) (b_row : Binds K fd_row ["_law_cell_here", "_law_limits"] []) (g_row : mg "_law_row" = some (.ref f_row))
    (F_same : Fun K "_law_same" "_law_same" sSame f_same fd_same) (b_same : Binds K fd_same ["_law_one", "_law_two"] []) (g_same : mg "_law_same" = some (.ref f_same))
    (F_made_piece : Fun K "_law_made_piece" "_law_made_piece" sPiece f_made_piece fd_made_piece) (b_made_piece : Binds K fd_made_piece pMp []) (g_made_piece : mg "_law_made_piece" = some (.ref f_made_piece))
    (F_made_blocks : Fun K "_law_made_blocks" "_law_made_blocks" sBlocks f_made_blocks fd_made_blocks) (b_made_blocks : Binds K fd_made_blocks pMb []) (g_made_blocks : mg "_law_made_blocks" = some (.ref f_made_blocks))
    (F_merged : Fun K "_law_merged" "_law_merged" sMerged f_merged fd_merged) (b_merged : Binds K fd_merged ["_law_blocks"] []) (g_merged : mg "_law_merged" = some (.ref f_merged))
    (F_world : Fun K "_law_world" "_law_world" sWorld f_world fd_world) (b_world : Binds K fd_world pWo []) (g_world : mg "_law_world" = some (.ref f_world))
    (F_book_of : Fun K "_law_book_of" "_law_book_of" sBookOf f_book_of fd_book_of) (b_book_of : Binds K fd_book_of ["_law_nums"] []) (g_book_of : mg "_law_book_of" = some (.ref f_book_of))
    (F_flat : Fun K "_law_flat" "_law_flat" sFlat f_flat fd_flat) (b_flat : Binds K fd_flat ["_law_blocks"] []) (g_flat : mg "_law_flat" = some (.ref f_flat))
    (F_width : Fun K "_law_width" "_law_width" sWidthL f_width fd_width) (b_width : Binds K fd_width pWi []) (g_width : mg "_law_width" = some (.ref f_width))
    (F_line_cost : Fun K "_law_line_cost" "_law_line_cost" sLineCostL f_line_cost fd_line_cost) (b_line_cost : Binds K fd_line_cost pLcl []) (g_line_cost : mg "_law_line_cost" = some (.ref f_line_cost))
    (F_need : Fun K "_law_need" "_law_need" sNeed f_need fd_need) (b_need : Binds K fd_need pWi []) (g_need : mg "_law_need" = some (.ref f_need))
    (F_turn : Fun K "_law_turn" "_law_turn" sTurn f_turn fd_turn) (b_turn : Binds K fd_turn pTu []) (g_turn : mg "_law_turn" = some (.ref f_turn))
    (F_lmoves : Fun K "_law_moves" "_law_moves" sLawMoves f_lmoves fd_lmoves) (b_lmoves : Binds K fd_lmoves pLmo []) (g_lmoves : mg "_law_moves" = some (.ref f_lmoves))
    (F_lfinal : Fun K "_law_final" "_law_final" sLawFinal f_lfinal fd_lfinal) (b_lfinal : Binds K fd_lfinal pLfi []) (g_lfinal : mg "_law_final" = some (.ref f_lfinal)) : FnOk P w K mg base CX0 9 f fd ["_law_script"] (spLaw K) := by
  have b_init := init_b2 FI
  have G_sizes : FnOk P w K mg base (L2N.CX P w) 3 f_sizes fd_sizes ["blocks"] (spSizes K CT) := ok_sizes B Z NT F_sizes F_pieces b_pieces g_pieces F_figures b_figures g_figures
  have G_init : FnOk P w K mg base (L2N.CX P w) 4 f_init fd_init pIn (spInit K C CT) := ok_ginit B T FI F_sizes b_sizes g_sizes G_sizes F_pieces b_pieces g_pieces F_owners b_owners g_owners
  have G_iadd : FnOk P w K mg base (L2N.CX P w) 6 f_iadd fd_iadd pOt (spIadd K C CT) := ok_iadd B T F_iadd F_sizes b_sizes g_sizes G_sizes F_pieces b_pieces g_pieces F_owners b_owners g_owners
  have G_check : FnOk P w K mg base (L2N.CX P w) 3 f_check fd_check Bo.pCk (Bo.spCheck CE) := Bo.ok_check B NB N gN F_check
  have G_binit : FnOk P w K mg base (L2N.CX P w) 4 f_binit fd_binit Bo.pBk (Bo.spInit CB CE) := Bo.ok_init B TB FB F_check b_check g_check G_check
  have G_book : FnOk P w K mg base (L2N.CX P w) 6 f_book_of fd_book_of ["_law_nums"] (Bo.spLB CB CE) := Bo.ok_book TB MB FB F_book_of G_binit
  have S : GK P w K mg base C CN f_iter f_len f_block pp f_pcs fd_iter fd_len fd_block fd_pcs := ⟨a_iter, ok_iter B T F_iter, b_iter, a_len, ok_len B T F_len, b_len, p_pcs, ok_pcs B T F_pcs, b_pcs, m_block, ok_block B T NN F_block, b_block⟩
  have S2 : GF P w K mg base C pf f_fgs fd_fgs := ⟨p_fgs, ok_fgs B T F_fgs F_figures b_figures g_figures, b_fgs⟩
  have G_pr : FnOk P w K mg base CX0 2 f_price_of_line fd_price_of_line pPr (spPr CB) := ok_pr B TB F_price_of_line F_gap_in b_gap_in g_gap_in
  have G_sinit : FnOk P w K mg base CX0 5 f_sinit fd_sinit pSI (spSI C CS) := ok_si B T TS S S2 F_sinit
  have G_fo : FnOk P w K mg base CX0 3 f_found_lines fd_found_lines ["self", "start"] (spFo CS CB) := ok_fo B ZT TB TS F_found_lines F_price_of_line b_price_of_line g_price_of_line G_pr
  have G_lf : FnOk P w K mg base CX0 4 f_lines_from fd_lines_from ["self", "start"] (spLf CS CB) := ok_lf B TS F_lines_from F_found_lines b_found_lines m_found_lines G_fo
  have G_op : FnOk P w K mg base CX0 2 f_opening_cost fd_opening_cost pOp (spOp CS CB) := ok_op B TB TS F_opening_cost F_free_height b_free_height m_free_height F_is_behind_keep b_is_behind_keep m_is_behind_keep
  have G_mw : FnOk P w K mg base CX0 3 f_moves_with fd_moves_with pMw (spMw CS CB) := ok_mw B TB TS F_moves_with F_opening_cost b_opening_cost m_opening_cost G_op
  have G_mo : FnOk P w K mg base CX0 5 f_moves fd_moves pSs (spMo CS CB) := ok_mo B TS F_moves F_is_final b_is_final m_is_final F_lines_from b_lines_from m_lines_from G_lf F_moves_with b_moves_with m_moves_with G_mw
  have G_mof : FnOk P w K mg base CX0 7 f_moves_of fd_moves_of pMof (spMof C CB) := ok_mof TS MS F_moves_of b_sinit G_sinit F_moves b_moves m_moves G_mo
  have G_fof : FnOk P w K mg base CX0 7 f_final_cost fd_final_cost pMof (spFof C CB) := ok_fof B TB TS MS F_final_cost b_sinit G_sinit F_sfinal_cost b_sfinal_cost m_sfinal_cost
  have G_same : ∀ n, FnOk P w K mg base CX0 (n + 1) f_same fd_same ["_law_one", "_law_two"] (spSame n) := ok_same B F_same b_same g_same
  have G_mb : FnOk P w K mg base CX0 2 f_made_blocks fd_made_blocks pMb spMb := ok_made_blocks B F_made_blocks F_row b_row g_row F_made_piece b_made_piece g_made_piece
  have G_world : FnOk P w K mg base CX0 3 f_world fd_world pWo (spWorld K) := ok_world B F_world F_cell b_cell g_cell F_row b_row g_row F_made_blocks b_made_blocks g_made_blocks G_mb F_merged b_merged g_merged
  have G_lmo : FnOk P w K mg base CX0 3 f_lmoves fd_lmoves pLmo spLmo := ok_lmo B F_lmoves F_width b_width g_width F_need b_need g_need F_line_cost b_line_cost g_line_cost F_turn b_turn g_turn
  exact ok_law0 B T M S gST kST cST tST F G_init b_init ⟨hcd, a_iadd.1, a_iadd.2⟩ G_iadd b_iadd a_beq (Bo.ok_eq B TB IB F_beq) b_beq (ok_sameK B F_same b_same g_same) F_world b_world g_world G_world F_row b_row g_row (ok_row B F_row) F_cell b_cell g_cell (ok_cell B F_cell) F_book_of b_book_of g_book_of G_book F_flat b_flat g_flat (ok_flat B F_flat) F_lmoves b_lmoves g_lmoves G_lmo F_moves_of b_moves_of g_moves_of G_mof F_final_cost b_final_cost g_final_cost G_fof F_lfinal b_lfinal g_lfinal (ok_lfi B F_lfinal) F_same b_same g_same (G_same 5)
end
end K37

set_option maxRecDepth 100000
set_option maxHeartbeats 4000000
namespace K37
open PySem PySem.Spec PyProof.Rows L2
theorem all_mk {l : PySem.W.OpenLaw} {w : World} {K : PySem.W.Frag} {h : Heap} {mg : Str → Option Value} {fa C CB CS CT CN CE ND ST0 f1 f2 f3 f4 f5 f6 f7 f8 f9 f10 f11 f12 f13 f14 f15 f16 f17 f18 f19 f20 f21 f22 f23 f24 f25 f26 f27 f28 f29 f30 f31 f32 f33 f34 f35 f36 f37 f38 f39 f40 f41 f42 f43 f44 f45 : Addr} (X : K.In h) (G : h.Ns mainGlobals mg) (hfa : mg "law" = some (.ref fa))
    {tk0 tk1 tk2 tk3 : Tok}
    {od1 an1 od2 an2 od3 an3 od4 an4 od5 an5 od6 an6 od7 an7 od8 an8 od9 an9 od10 an10 od11 an11 od12 an12 od13 an13 od14 an14 od15 an15 od16 an16 od17 an17 od18 an18 od19 an19 od20 an20 od21 an21 od22 an22 od23 an23 od24 an24 od25 an25 od26 an26 od27 an27 od28 an28 od29 an29 od30 an30 od31 an31 od32 an32 od33 an33 od34 an34 od35 an35 od36 an36 od37 an37 od38 an38 od39 an39 od40 an40 od41 an41 od42 an42 od43 an43 od44 an44 od45 an45 : Option Addr} {sl1 sl2 sl3 sl4 sl5 sl6 sl7 sl8 sl9 sl10 sl11 sl12 sl13 sl14 sl15 sl16 sl17 sl18 sl19 sl20 sl21 sl22 sl23 sl24 sl25 sl26 sl27 sl28 sl29 sl30 sl31 sl32 sl33 sl34 sl35 sl36 sl37 sl38 sl39 sl40 sl41 sl42 sl43 sl44 sl45 : Array (Option Value)}
    {oc1 kV1 dc1 pm1 cd1 ct1 oc2 kV2 dc2 pm2 cd2 ct2 oc3 kV3 dc3 pm3 cd3 ct3 oc4 kV4 dc4 pm4 cd4 ct4 oc5 kV5 dc5 pm5 cd5 ct5 oc6 kV6 dc6 pm6 cd6 ct6 oc7 kV7 dc7 pm7 cd7 ct7 oc8 kV8 dc8 pm8 cd8 ct8 oc9 kV9 dc9 pm9 cd9 ct9 oc10 kV10 dc10 pm10 cd10 ct10 oc11 kV11 dc11 pm11 cd11 ct11 oc12 kV12 dc12 pm12 cd12 ct12 oc13 kV13 dc13 pm13 cd13 ct13 oc14 kV14 dc14 pm14 cd14 ct14 oc15 kV15 dc15 pm15 cd15 ct15 oc16 kV16 dc16 pm16 cd16 ct16 oc17 kV17 dc17 pm17 cd17 ct17 oc18 kV18 dc18 pm18 cd18 ct18 oc19 kV19 dc19 pm19 cd19 ct19 oc20 kV20 dc20 pm20 cd20 ct20 oc21 kV21 dc21 pm21 cd21 ct21 oc22 kV22 dc22 pm22 cd22 ct22 oc23 kV23 dc23 pm23 cd23 ct23 oc24 kV24 dc24 pm24 cd24 ct24 oc25 kV25 dc25 pm25 cd25 ct25 oc26 kV26 dc26 pm26 cd26 ct26 oc27 kV27 dc27 pm27 cd27 ct27 oc28 kV28 dc28 pm28 cd28 ct28 oc29 kV29 dc29 pm29 cd29 ct29 oc30 kV30 dc30 pm30 cd30 ct30 oc31 kV31 dc31 pm31 cd31 ct31 oc32 kV32 dc32 pm32 cd32 ct32 oc33 kV33 dc33 pm33 cd33 ct33 oc34 kV34 dc34 pm34 cd34 ct34 oc35 kV35 dc35 pm35 cd35 ct35 oc36 kV36 dc36 pm36 cd36 ct36 oc37 kV37 dc37 pm37 cd37 ct37 oc38 kV38 dc38 pm38 cd38 ct38 oc39 kV39 dc39 pm39 cd39 ct39 oc40 kV40 dc40 pm40 cd40 ct40 oc41 kV41 dc41 pm41 cd41 ct41 oc42 kV42 dc42 pm42 cd42 ct42 oc43 kV43 dc43 pm43 cd43 ct43 oc44 kV44 dc44 pm44 cd44 ct44 oc45 kV45 dc45 pm45 cd45 ct45 : Value}
    {nm_CT q_CT : Str} {N_CT : Addr} {bs_CT bm_CT : List Value} {sn_CT : List Str} {sub_CT : List Value} {ab_CT : Bool} {col_CT : Option Bool} {dd_CT : Option Addr} {m0_CT m1_CT m2_CT m3_CT m5_CT : Option Value}
    {nm_CN q_CN : Str} {N_CN : Addr} {bs_CN bm_CN : List Value} {sn_CN : List Str} {sub_CN : List Value} {ab_CN : Bool} {col_CN : Option Bool} {dd_CN : Option Addr} {m0_CN m1_CN m2_CN m3_CN m5_CN : Option Value}
    {nm_CE q_CE : Str} {N_CE : Addr} {bs_CE bm_CE : List Value} {sn_CE : List Str} {sub_CE : List Value} {ab_CE : Bool} {col_CE : Option Bool} {dd_CE : Option Addr} {m0_CE m1_CE m2_CE m3_CE m5_CE : Option Value}
    {pp29 : Addr} {pl29 : List Value}
    {pp30 : Addr} {pl30 : List Value}
    {fc TD d0 : Addr} {odc anc odT od0 : Option Addr} {slc slT sl0 : Array (Option Value)} {occ kVc dcc pmc cdc ctc : Value} {nT n0 : Nat}
    {bc KD FT : Addr} {odb anb odF : Option Addr} {slb slF : Array (Option Value)} {ocb dcb pmb cdb ctb : Value} {nF ndn : Nat} {ndes : Array DictEntry}
    {kt0 kt1 kt2 kt3 kt4 kt5 kt6 kt7 : Tok}
    {ft0 ft1 ft2 ft3 ft4 ft5 ft6 ft7 ft8 ft9 ft10 : Tok}
    {odS : Option Addr} {slS : Array (Option Value)} {nS : Nat} {st1 st2 st3 : Tok}
    {nt0 : Addr} {no0 : Option Addr} {nn0 : Nat} {ns0 : Array (Option Value)} {na0 nb0 : Tok}
    {nt1 : Addr} {no1 : Option Addr} {nn1 : Nat} {ns1 : Array (Option Value)} {na1 nb1 : Tok}
    {nt2 : Addr} {no2 : Option Addr} {nn2 : Nat} {ns2 : Array (Option Value)} {na2 nb2 : Tok}
    {nt3 : Addr} {no3 : Option Addr} {nn3 : Nat} {ns3 : Array (Option Value)} {na3 nb3 : Tok}
    {nt4 : Addr} {no4 : Option Addr} {nn4 : Nat} {ns4 : Array (Option Value)} {na4 nb4 : Tok}
    {nt5 : Addr} {no5 : Option Addr} {nn5 : Nat} {ns5 : Array (Option Value)} {na5 nb5 : Tok}
    {nt6 : Addr} {no6 : Option Addr} {nn6 : Nat} {ns6 : Array (Option Value)} {na6 nb6 : Tok}
    {nt7 : Addr} {no7 : Option Addr} {nn7 : Nat} {ns7 : Array (Option Value)} {na7 nb7 : Tok}
    {nt8 : Addr} {no8 : Option Addr} {nn8 : Nat} {ns8 : Array (Option Value)} {na8 nb8 : Tok}
    {nt9 : Addr} {no9 : Option Addr} {nn9 : Nat} {ns9 : Array (Option Value)} {na9 nb9 : Tok}
    (c_MOST_PIECES : PySem.W.nsIn K mainGlobals "MOST_PIECES" = some (some (.int 40 tk0)))
    (c_MOST_FIGURES : PySem.W.nsIn K mainGlobals "MOST_FIGURES" = some (some (.int 4 tk1)))
    (c_BLANK_TIE : PySem.W.nsIn K mainGlobals "BLANK_TIE" = some (some (.str (Str.ofString "blank") tk2)))
    (c_JOINT_TIE : PySem.W.nsIn K mainGlobals "JOINT_TIE" = some (some (.str (Str.ofString "joint") tk3)))
    (aC : PySem.W.nsIn K mainGlobals "Galley" = some (some (.ref C)))
    (pgC : PySem.W.plainGet K C Str.empty = true)
    (hdC : PySem.W.hasDictIn K C = true)
    (poC : PySem.W.plainOver K C = true)
    (saC : PySem.W.findIn K (.ref C) "__setattr__" = some (some (.builtin "object.__setattr__")))
    (mkC : PySem.W.makesIn K C = true)
    (kcC : PySem.W.keepIn K (.ref C) = true)
    (nC_blocks : PySem.W.findIn K (.ref C) "_blocks" = some none)
    (nC_pieces : PySem.W.findIn K (.ref C) "_pieces" = some none)
    (nC_owners : PySem.W.findIn K (.ref C) "_owners" = some none)
    (aCB : PySem.W.nsIn K mainGlobals "Book" = some (some (.ref CB)))
    (pgCB : PySem.W.plainGet K CB Str.empty = true)
    (hdCB : PySem.W.hasDictIn K CB = true)
    (poCB : PySem.W.plainOver K CB = true)
    (saCB : PySem.W.findIn K (.ref CB) "__setattr__" = some (some (.builtin "object.__setattr__")))
    (mkCB : PySem.W.makesIn K CB = true)
    (kcCB : PySem.W.keepIn K (.ref CB) = true)
    (nCB_room : PySem.W.findIn K (.ref CB) "room" = some none)
    (nCB_height : PySem.W.findIn K (.ref CB) "height" = some none)
    (nCB_joint : PySem.W.findIn K (.ref CB) "joint" = some none)
    (nCB_over : PySem.W.findIn K (.ref CB) "over" = some none)
    (nCB_keep : PySem.W.findIn K (.ref CB) "keep" = some none)
    (nCB_orphan : PySem.W.findIn K (.ref CB) "orphan" = some none)
    (nCB_widow : PySem.W.findIn K (.ref CB) "widow" = some none)
    (nCB_wait : PySem.W.findIn K (.ref CB) "wait" = some none)
    (nCB_columns : PySem.W.findIn K (.ref CB) "columns" = some none)
    (nCB_gutter : PySem.W.findIn K (.ref CB) "gutter" = some none)
    (nCB_full : PySem.W.findIn K (.ref CB) "full" = some none)
    (nCB_worths : PySem.W.findIn K (.ref CB) "_worths" = some none)
    (aCS : PySem.W.nsIn K mainGlobals "Steps" = some (some (.ref CS)))
    (pgCS : PySem.W.plainGet K CS Str.empty = true)
    (hdCS : PySem.W.hasDictIn K CS = true)
    (poCS : PySem.W.plainOver K CS = true)
    (saCS : PySem.W.findIn K (.ref CS) "__setattr__" = some (some (.builtin "object.__setattr__")))
    (mkCS : PySem.W.makesIn K CS = true)
    (kcCS : PySem.W.keepIn K (.ref CS) = true)
    (nCS_book : PySem.W.findIn K (.ref CS) "book" = some none)
    (nCS_blocks : PySem.W.findIn K (.ref CS) "_blocks" = some none)
    (nCS_all : PySem.W.findIn K (.ref CS) "_all" = some none)
    (nCS_owners : PySem.W.findIn K (.ref CS) "_owners" = some none)
    (nCS_heights : PySem.W.findIn K (.ref CS) "_heights" = some none)
    (nCS_called : PySem.W.findIn K (.ref CS) "_called" = some none)
    (nCS_lines : PySem.W.findIn K (.ref CS) "_lines" = some none)
    (aND : PySem.W.nsIn K mainGlobals "NUMBER_RANGES" = some (some (.ref ND)))
    (aST0 : PySem.W.nsIn K mainGlobals "START" = some (some (.ref ST0)))
    (aCT : PySem.W.nsIn K mainGlobals "TooLarge" = some (some (.ref CT)))
    (x_CT : K.lookup CT = some (excClassObj nm_CT q_CT CT N_CT bs_CT bm_CT true sn_CT sub_CT ab_CT col_CT dd_CT m0_CT m1_CT m2_CT m3_CT m5_CT "ValueError.__new__"))
    (xb_CT : PySem.HandSPX.refsVE bm_CT = true)
    (sa_CT : PySem.W.findIn K (.ref CT) "__setattr__" = some (some (.builtin "object.__setattr__")))
    (xe_CT : PySem.W.subIn K (.ref CT) (.type "BaseException") = some true)
    (xt_CT : PySem.W.typeIn K (.ref CT) = some (.type "type"))
    (xk_CT : PySem.W.keepIn K (.ref CT) = true)
    (f_CT_many : PySem.W.findIn K (.ref CT) "many" = some none)
    (hg_CT : PySem.W.findIn K (.ref CT) "__getattribute__" = some (some (.builtin "BaseException.__getattribute__")))
    (hk_CT : PySem.W.findIn K (.ref CT) "__getattr__" = some none)
    (hd_CT : PySem.W.hasDictIn K CT = true)
    (ha_CT : PySem.W.findIn K (.ref CT) "__class__" = some (some (.builtin "object.__class__")))
    (hn_CT : PySem.W.specialIn K (.builtin "object.__class__") "__get__" = some (some (.builtin "getset_descriptor.__get__")))
    (ht_CT : PySem.W.takesIn K (.builtin "object.__class__") = some true)
    (hm_CT : PySem.W.mroIn K CT (.type "object") = some true)
    (ls_CT : PySem.W.subIn K (.ref CT) (.ref CT) = some true)
    (aCN : PySem.W.nsIn K mainGlobals "NoSuchNumber" = some (some (.ref CN)))
    (x_CN : K.lookup CN = some (excClassObj nm_CN q_CN CN N_CN bs_CN bm_CN true sn_CN sub_CN ab_CN col_CN dd_CN m0_CN m1_CN m2_CN m3_CN m5_CN "ValueError.__new__"))
    (xb_CN : PySem.HandSPX.refsVE bm_CN = true)
    (sa_CN : PySem.W.findIn K (.ref CN) "__setattr__" = some (some (.builtin "object.__setattr__")))
    (xe_CN : PySem.W.subIn K (.ref CN) (.type "BaseException") = some true)
    (xt_CN : PySem.W.typeIn K (.ref CN) = some (.type "type"))
    (xk_CN : PySem.W.keepIn K (.ref CN) = true)
    (f_CN_number : PySem.W.findIn K (.ref CN) "number" = some none)
    (hg_CN : PySem.W.findIn K (.ref CN) "__getattribute__" = some (some (.builtin "BaseException.__getattribute__")))
    (hk_CN : PySem.W.findIn K (.ref CN) "__getattr__" = some none)
    (hd_CN : PySem.W.hasDictIn K CN = true)
    (ha_CN : PySem.W.findIn K (.ref CN) "__class__" = some (some (.builtin "object.__class__")))
    (hn_CN : PySem.W.specialIn K (.builtin "object.__class__") "__get__" = some (some (.builtin "getset_descriptor.__get__")))
    (ht_CN : PySem.W.takesIn K (.builtin "object.__class__") = some true)
    (hm_CN : PySem.W.mroIn K CN (.type "object") = some true)
    (ls_CN : PySem.W.subIn K (.ref CN) (.ref CN) = some true)
    (aCE : PySem.W.nsIn K mainGlobals "BadBook" = some (some (.ref CE)))
    (x_CE : K.lookup CE = some (excClassObj nm_CE q_CE CE N_CE bs_CE bm_CE true sn_CE sub_CE ab_CE col_CE dd_CE m0_CE m1_CE m2_CE m3_CE m5_CE "ValueError.__new__"))
    (xb_CE : PySem.HandSPX.refsVE bm_CE = true)
    (sa_CE : PySem.W.findIn K (.ref CE) "__setattr__" = some (some (.builtin "object.__setattr__")))
    (xe_CE : PySem.W.subIn K (.ref CE) (.type "BaseException") = some true)
    (xt_CE : PySem.W.typeIn K (.ref CE) = some (.type "type"))
    (xk_CE : PySem.W.keepIn K (.ref CE) = true)
    (f_CE_field : PySem.W.findIn K (.ref CE) "field" = some none)
    (hg_CE : PySem.W.findIn K (.ref CE) "__getattribute__" = some (some (.builtin "BaseException.__getattribute__")))
    (hk_CE : PySem.W.findIn K (.ref CE) "__getattr__" = some none)
    (hd_CE : PySem.W.hasDictIn K CE = true)
    (ha_CE : PySem.W.findIn K (.ref CE) "__class__" = some (some (.builtin "object.__class__")))
    (hn_CE : PySem.W.specialIn K (.builtin "object.__class__") "__get__" = some (some (.builtin "getset_descriptor.__get__")))
    (ht_CE : PySem.W.takesIn K (.builtin "object.__class__") = some true)
    (hm_CE : PySem.W.mroIn K CE (.type "object") = some true)
    (ls_CE : PySem.W.subIn K (.ref CE) (.ref CE) = some true)
    (ig_ha : PySem.W.findIn K (.ref C) "__class__" = some (some (.builtin "object.__class__")))
    (ig_hn : PySem.W.specialIn K (.builtin "object.__class__") "__get__" = some (some (.builtin "getset_descriptor.__get__")))
    (ig_ht : PySem.W.takesIn K (.builtin "object.__class__") = some true)
    (ig_hm : PySem.W.mroIn K C (.type "object") = some true)
    (ig_me : PySem.W.kitOne K (.ref C) (.ref C) = some true)
    (ig_kl : PySem.W.kitOne K (.type "list") (.ref C) = some false)
    (ib_ha : PySem.W.findIn K (.ref CB) "__class__" = some (some (.builtin "object.__class__")))
    (ib_hn : PySem.W.specialIn K (.builtin "object.__class__") "__get__" = some (some (.builtin "getset_descriptor.__get__")))
    (ib_ht : PySem.W.takesIn K (.builtin "object.__class__") = some true)
    (ib_hm : PySem.W.mroIn K CB (.type "object") = some true)
    (ib_me : PySem.W.kitOne K (.ref CB) (.ref CB) = some true)
    (ib_kl : PySem.W.kitOne K (.type "list") (.ref CB) = some false)
    (ib_kt : PySem.W.kitOne K (.type "tuple") (.ref CB) = some false)
    (ic_cd : ∃ cd rest, PySem.W.clsIn K C = some cd ∧ cd.mro = .ref C :: rest)
    (w_a : PySem.W.findIn K (.ref C) "__init__" = some (some (.ref fc)))
    (w_i : PySem.W.isFn K (.ref fc) = true)
    (w_k : PySem.W.keepIn K (.ref fc) = true)
    (w_l : K.lookup fc = some ⟨occ, odc, .func (PySem.W.fnOf "__init__" "Galley.__init__" (defArgs sInit) (defBody sInit) (defScope sInit) (.ref TD) kVc dcc pmc anc cdc ctc), slc⟩)
    (w_c : PySem.W.codeIn K cdc "Galley.__init__" = true)
    (w_T : K.lookup TD = some ⟨.type "tuple", odT, .seq #[.ref d0] nT, slT⟩)
    (w_0 : K.lookup d0 = some ⟨.type "tuple", od0, .seq #[] n0, sl0⟩)
    (v_a : PySem.W.findIn K (.ref CB) "__init__" = some (some (.ref bc)))
    (v_i : PySem.W.isFn K (.ref bc) = true)
    (v_k : PySem.W.keepIn K (.ref bc) = true)
    (v_l : K.lookup bc = some ⟨ocb, odb, .func (PySem.W.fnOf "__init__" "Book.__init__" (defArgs Bo.sInit) (defBody Bo.sInit) (defScope Bo.sInit) .none (.ref KD) dcb pmb anb cdb ctb), slb⟩)
    (v_c : PySem.W.codeIn K cdb "Book.__init__" = true)
    (fd_at : PySem.W.findCls K (.ref CB) (.type "type") "FIELDS" = some (.val (.ref FT)))
    (fd_rd : PySem.W.readsIn K CB (.type "type") = true)
    (fd_ga : PySem.W.specialIn K (.ref CB) "__getattribute__" = some (some (.builtin "type.__getattribute__")))
    (fd_l : K.lookup FT = some ⟨.type "tuple", odF, .seq #[.str (Str.ofString "room") ft0, .str (Str.ofString "height") ft1, .str (Str.ofString "joint") ft2, .str (Str.ofString "over") ft3, .str (Str.ofString "keep") ft4, .str (Str.ofString "orphan") ft5, .str (Str.ofString "widow") ft6, .str (Str.ofString "wait") ft7, .str (Str.ofString "columns") ft8, .str (Str.ofString "gutter") ft9, .str (Str.ofString "full") ft10] nF, slF⟩)
    (kw_joint : PySem.W.nsIn K KD "joint" = some (some (.int 0 kt0)))
    (kw_over : PySem.W.nsIn K KD "over" = some (some (.int 100 kt1)))
    (kw_keep : PySem.W.nsIn K KD "keep" = some (some (.int 0 kt2)))
    (kw_orphan : PySem.W.nsIn K KD "orphan" = some (some (.int 0 kt3)))
    (kw_widow : PySem.W.nsIn K KD "widow" = some (some (.int 0 kt4)))
    (kw_wait : PySem.W.nsIn K KD "wait" = some (some (.int 0 kt5)))
    (kw_columns : PySem.W.nsIn K KD "columns" = some (some (.int 1 kt6)))
    (kw_gutter : PySem.W.nsIn K KD "gutter" = some (some (.int 1 kt7)))
    (kw_full : PySem.W.nsIn K KD "full" = some (some (.bool false)))
    (nd_at : K.lookup ND = some ⟨.type "dict", none, .dict ndes ndn, #[]⟩)
    (nd_lit : PySem.W.KeysLit w.params ndes.toList)
    (nd_low : (ND == sysModules) = false)
    (nk0 : PySem.W.nsIn K ND "room" = some (some (.ref nt0)))
    (nl0 : K.lookup nt0 = some ⟨.type "tuple", no0, .seq #[.int 1 na0, .int 2000 nb0] nn0, ns0⟩)
    (nk1 : PySem.W.nsIn K ND "height" = some (some (.ref nt1)))
    (nl1 : K.lookup nt1 = some ⟨.type "tuple", no1, .seq #[.int 1 na1, .int 2000 nb1] nn1, ns1⟩)
    (nk2 : PySem.W.nsIn K ND "joint" = some (some (.ref nt2)))
    (nl2 : K.lookup nt2 = some ⟨.type "tuple", no2, .seq #[.int 0 na2, .int 2000 nb2] nn2, ns2⟩)
    (nk3 : PySem.W.nsIn K ND "over" = some (some (.ref nt3)))
    (nl3 : K.lookup nt3 = some ⟨.type "tuple", no3, .seq #[.int 0 na3, .int 2000 nb3] nn3, ns3⟩)
    (nk4 : PySem.W.nsIn K ND "keep" = some (some (.ref nt4)))
    (nl4 : K.lookup nt4 = some ⟨.type "tuple", no4, .seq #[.int 0 na4, .int 2000 nb4] nn4, ns4⟩)
    (nk5 : PySem.W.nsIn K ND "orphan" = some (some (.ref nt5)))
    (nl5 : K.lookup nt5 = some ⟨.type "tuple", no5, .seq #[.int 0 na5, .int 2000 nb5] nn5, ns5⟩)
    (nk6 : PySem.W.nsIn K ND "widow" = some (some (.ref nt6)))
    (nl6 : K.lookup nt6 = some ⟨.type "tuple", no6, .seq #[.int 0 na6, .int 2000 nb6] nn6, ns6⟩)
    (nk7 : PySem.W.nsIn K ND "wait" = some (some (.ref nt7)))
    (nl7 : K.lookup nt7 = some ⟨.type "tuple", no7, .seq #[.int 0 na7, .int 2000 nb7] nn7, ns7⟩)
    (nk8 : PySem.W.nsIn K ND "columns" = some (some (.ref nt8)))
    (nl8 : K.lookup nt8 = some ⟨.type "tuple", no8, .seq #[.int 1 na8, .int 4 nb8] nn8, ns8⟩)
    (nk9 : PySem.W.nsIn K ND "gutter" = some (some (.ref nt9)))
    (nl9 : K.lookup nt9 = some ⟨.type "tuple", no9, .seq #[.int 0 na9, .int 40 nb9] nn9, ns9⟩)
    (st_l : K.lookup ST0 = some ⟨.type "tuple", odS, .seq #[.int 0 st1, .int 0 st2, .int 0 st3, .bool false] nS, slS⟩)
    (nk_no : PySem.W.nsIn K ND "full" = some none)
    (a1 : PySem.W.nsIn K mainGlobals "gap_in" = some (some (.ref f1)))
    (l1 : K.lookup f1 = some ⟨oc1, od1, .func (PySem.W.fnOf "gap_in" "gap_in" (defArgs sGapIn) (defBody sGapIn) (defScope sGapIn) .none kV1 dc1 pm1 an1 cd1 ct1), sl1⟩)
    (c1 : PySem.W.codeIn K cd1 "gap_in" = true)
    (k1 : PySem.W.keepIn K (.ref f1) = true)
    (a2 : PySem.W.nsIn K mainGlobals "price_of_line" = some (some (.ref f2)))
    (l2 : K.lookup f2 = some ⟨oc2, od2, .func (PySem.W.fnOf "price_of_line" "price_of_line" (defArgs sPrice) (defBody sPrice) (defScope sPrice) .none kV2 dc2 pm2 an2 cd2 ct2), sl2⟩)
    (c2 : PySem.W.codeIn K cd2 "price_of_line" = true)
    (k2 : PySem.W.keepIn K (.ref f2) = true)
    (a3 : PySem.W.nsIn K mainGlobals "moves_of" = some (some (.ref f3)))
    (l3 : K.lookup f3 = some ⟨oc3, od3, .func (PySem.W.fnOf "moves_of" "moves_of" (defArgs sMovesOf) (defBody sMovesOf) (defScope sMovesOf) .none kV3 dc3 pm3 an3 cd3 ct3), sl3⟩)
    (c3 : PySem.W.codeIn K cd3 "moves_of" = true)
    (k3 : PySem.W.keepIn K (.ref f3) = true)
    (a4 : PySem.W.nsIn K mainGlobals "final_cost" = some (some (.ref f4)))
    (l4 : K.lookup f4 = some ⟨oc4, od4, .func (PySem.W.fnOf "final_cost" "final_cost" (defArgs sFinalCost) (defBody sFinalCost) (defScope sFinalCost) .none kV4 dc4 pm4 an4 cd4 ct4), sl4⟩)
    (c4 : PySem.W.codeIn K cd4 "final_cost" = true)
    (k4 : PySem.W.keepIn K (.ref f4) = true)
    (a5 : PySem.W.nsIn K mainGlobals "_check_field" = some (some (.ref f5)))
    (l5 : K.lookup f5 = some ⟨oc5, od5, .func (PySem.W.fnOf "_check_field" "_check_field" (defArgs sCheck) (defBody sCheck) (defScope sCheck) .none kV5 dc5 pm5 an5 cd5 ct5), sl5⟩)
    (c5 : PySem.W.codeIn K cd5 "_check_field" = true)
    (k5 : PySem.W.keepIn K (.ref f5) = true)
    (a6 : PySem.W.nsIn K mainGlobals "_pieces_of" = some (some (.ref f6)))
    (l6 : K.lookup f6 = some ⟨oc6, od6, .func (PySem.W.fnOf "_pieces_of" "_pieces_of" (defArgs sPieces) (defBody sPieces) (defScope sPieces) .none kV6 dc6 pm6 an6 cd6 ct6), sl6⟩)
    (c6 : PySem.W.codeIn K cd6 "_pieces_of" = true)
    (k6 : PySem.W.keepIn K (.ref f6) = true)
    (a7 : PySem.W.nsIn K mainGlobals "_figures_of" = some (some (.ref f7)))
    (l7 : K.lookup f7 = some ⟨oc7, od7, .func (PySem.W.fnOf "_figures_of" "_figures_of" (defArgs sFigures) (defBody sFigures) (defScope sFigures) .none kV7 dc7 pm7 an7 cd7 ct7), sl7⟩)
    (c7 : PySem.W.codeIn K cd7 "_figures_of" = true)
    (k7 : PySem.W.keepIn K (.ref f7) = true)
    (a8 : PySem.W.nsIn K mainGlobals "_owners_of" = some (some (.ref f8)))
    (l8 : K.lookup f8 = some ⟨oc8, od8, .func (PySem.W.fnOf "_owners_of" "_owners_of" (defArgs sOwners) (defBody sOwners) (defScope sOwners) .none kV8 dc8 pm8 an8 cd8 ct8), sl8⟩)
    (c8 : PySem.W.codeIn K cd8 "_owners_of" = true)
    (k8 : PySem.W.keepIn K (.ref f8) = true)
    (a9 : PySem.W.nsIn K mainGlobals "_check_sizes" = some (some (.ref f9)))
    (l9 : K.lookup f9 = some ⟨oc9, od9, .func (PySem.W.fnOf "_check_sizes" "_check_sizes" (defArgs sSizes) (defBody sSizes) (defScope sSizes) .none kV9 dc9 pm9 an9 cd9 ct9), sl9⟩)
    (c9 : PySem.W.codeIn K cd9 "_check_sizes" = true)
    (k9 : PySem.W.keepIn K (.ref f9) = true)
    (a10 : PySem.W.nsIn K mainGlobals "_law_cell" = some (some (.ref f10)))
    (l10 : K.lookup f10 = some ⟨oc10, od10, .func (PySem.W.fnOf "_law_cell" "_law_cell" (defArgs sCell) (defBody sCell) (defScope sCell) .none kV10 dc10 pm10 an10 cd10 ct10), sl10⟩)
    (c10 : PySem.W.codeIn K cd10 "_law_cell" = true)
    (k10 : PySem.W.keepIn K (.ref f10) = true)
    (a11 : PySem.W.nsIn K mainGlobals "_law_row" = some (some (.ref f11)))
    (l11 : K.lookup f11 = some ⟨oc11, od11, .func (PySem.W.fnOf "_law_row" "_law_row" (defArgs sRow) (defBody sRow) (defScope sRow) .none kV11 dc11 pm11 an11 cd11 ct11), sl11⟩)
    (c11 : PySem.W.codeIn K cd11 "_law_row" = true)
    (k11 : PySem.W.keepIn K (.ref f11) = true)
    (a12 : PySem.W.nsIn K mainGlobals "_law_same" = some (some (.ref f12)))
    (l12 : K.lookup f12 = some ⟨oc12, od12, .func (PySem.W.fnOf "_law_same" "_law_same" (defArgs sSame) (defBody sSame) (defScope sSame) .none kV12 dc12 pm12 an12 cd12 ct12), sl12⟩)
    (c12 : PySem.W.codeIn K cd12 "_law_same" = true)
    (k12 : PySem.W.keepIn K (.ref f12) = true)
    (a13 : PySem.W.nsIn K mainGlobals "_law_made_piece" = some (some (.ref f13)))
    (l13 : K.lookup f13 = some ⟨oc13, od13, .func (PySem.W.fnOf "_law_made_piece" "_law_made_piece" (defArgs sPiece) (defBody sPiece) (defScope sPiece) .none kV13 dc13 pm13 an13 cd13 ct13), sl13⟩)
    (c13 : PySem.W.codeIn K cd13 "_law_made_piece" = true)
    (k13 : PySem.W.keepIn K (.ref f13) = true)
    (a14 : PySem.W.nsIn K mainGlobals "_law_made_blocks" = some (some (.ref f14)))
    (l14 : K.lookup f14 = some ⟨oc14, od14, .func (PySem.W.fnOf "_law_made_blocks" "_law_made_blocks" (defArgs sBlocks) (defBody sBlocks) (defScope sBlocks) .none kV14 dc14 pm14 an14 cd14 ct14), sl14⟩)
    (c14 : PySem.W.codeIn K cd14 "_law_made_blocks" = true)
    (k14 : PySem.W.keepIn K (.ref f14) = true)
    (a15 : PySem.W.nsIn K mainGlobals "_law_merged" = some (some (.ref f15)))
    (l15 : K.lookup f15 = some ⟨oc15, od15, .func (PySem.W.fnOf "_law_merged" "_law_merged" (defArgs sMerged) (defBody sMerged) (defScope sMerged) .none kV15 dc15 pm15 an15 cd15 ct15), sl15⟩)
    (c15 : PySem.W.codeIn K cd15 "_law_merged" = true)
    (k15 : PySem.W.keepIn K (.ref f15) = true)
    (a16 : PySem.W.nsIn K mainGlobals "_law_world" = some (some (.ref f16)))
    (l16 : K.lookup f16 = some ⟨oc16, od16, .func (PySem.W.fnOf "_law_world" "_law_world" (defArgs sWorld) (defBody sWorld) (defScope sWorld) .none kV16 dc16 pm16 an16 cd16 ct16), sl16⟩)
    (c16 : PySem.W.codeIn K cd16 "_law_world" = true)
    (k16 : PySem.W.keepIn K (.ref f16) = true)
    (a17 : PySem.W.nsIn K mainGlobals "_law_book_of" = some (some (.ref f17)))
    (l17 : K.lookup f17 = some ⟨oc17, od17, .func (PySem.W.fnOf "_law_book_of" "_law_book_of" (defArgs sBookOf) (defBody sBookOf) (defScope sBookOf) .none kV17 dc17 pm17 an17 cd17 ct17), sl17⟩)
    (c17 : PySem.W.codeIn K cd17 "_law_book_of" = true)
    (k17 : PySem.W.keepIn K (.ref f17) = true)
    (a18 : PySem.W.nsIn K mainGlobals "_law_flat" = some (some (.ref f18)))
    (l18 : K.lookup f18 = some ⟨oc18, od18, .func (PySem.W.fnOf "_law_flat" "_law_flat" (defArgs sFlat) (defBody sFlat) (defScope sFlat) .none kV18 dc18 pm18 an18 cd18 ct18), sl18⟩)
    (c18 : PySem.W.codeIn K cd18 "_law_flat" = true)
    (k18 : PySem.W.keepIn K (.ref f18) = true)
    (a19 : PySem.W.nsIn K mainGlobals "_law_width" = some (some (.ref f19)))
    (l19 : K.lookup f19 = some ⟨oc19, od19, .func (PySem.W.fnOf "_law_width" "_law_width" (defArgs sWidthL) (defBody sWidthL) (defScope sWidthL) .none kV19 dc19 pm19 an19 cd19 ct19), sl19⟩)
    (c19 : PySem.W.codeIn K cd19 "_law_width" = true)
    (k19 : PySem.W.keepIn K (.ref f19) = true)
    (a20 : PySem.W.nsIn K mainGlobals "_law_line_cost" = some (some (.ref f20)))
    (l20 : K.lookup f20 = some ⟨oc20, od20, .func (PySem.W.fnOf "_law_line_cost" "_law_line_cost" (defArgs sLineCostL) (defBody sLineCostL) (defScope sLineCostL) .none kV20 dc20 pm20 an20 cd20 ct20), sl20⟩)
    (c20 : PySem.W.codeIn K cd20 "_law_line_cost" = true)
    (k20 : PySem.W.keepIn K (.ref f20) = true)
    (a21 : PySem.W.nsIn K mainGlobals "_law_need" = some (some (.ref f21)))
    (l21 : K.lookup f21 = some ⟨oc21, od21, .func (PySem.W.fnOf "_law_need" "_law_need" (defArgs sNeed) (defBody sNeed) (defScope sNeed) .none kV21 dc21 pm21 an21 cd21 ct21), sl21⟩)
    (c21 : PySem.W.codeIn K cd21 "_law_need" = true)
    (k21 : PySem.W.keepIn K (.ref f21) = true)
    (a22 : PySem.W.nsIn K mainGlobals "_law_turn" = some (some (.ref f22)))
    (l22 : K.lookup f22 = some ⟨oc22, od22, .func (PySem.W.fnOf "_law_turn" "_law_turn" (defArgs sTurn) (defBody sTurn) (defScope sTurn) .none kV22 dc22 pm22 an22 cd22 ct22), sl22⟩)
    (c22 : PySem.W.codeIn K cd22 "_law_turn" = true)
    (k22 : PySem.W.keepIn K (.ref f22) = true)
    (a23 : PySem.W.nsIn K mainGlobals "_law_moves" = some (some (.ref f23)))
    (l23 : K.lookup f23 = some ⟨oc23, od23, .func (PySem.W.fnOf "_law_moves" "_law_moves" (defArgs sLawMoves) (defBody sLawMoves) (defScope sLawMoves) .none kV23 dc23 pm23 an23 cd23 ct23), sl23⟩)
    (c23 : PySem.W.codeIn K cd23 "_law_moves" = true)
    (k23 : PySem.W.keepIn K (.ref f23) = true)
    (a24 : PySem.W.nsIn K mainGlobals "_law_final" = some (some (.ref f24)))
    (l24 : K.lookup f24 = some ⟨oc24, od24, .func (PySem.W.fnOf "_law_final" "_law_final" (defArgs sLawFinal) (defBody sLawFinal) (defScope sLawFinal) .none kV24 dc24 pm24 an24 cd24 ct24), sl24⟩)
    (c24 : PySem.W.codeIn K cd24 "_law_final" = true)
    (k24 : PySem.W.keepIn K (.ref f24) = true)
    (a25 : PySem.W.nsIn K mainGlobals "law" = some (some (.ref f25)))
    (l25 : K.lookup f25 = some ⟨oc25, od25, .func (PySem.W.fnOf "law" "law" (defArgs sLaw) (defBody sLaw) (defScope sLaw) .none kV25 dc25 pm25 an25 cd25 ct25), sl25⟩)
    (c25 : PySem.W.codeIn K cd25 "law" = true)
    (k25 : PySem.W.keepIn K (.ref f25) = true)
    (a26 : PySem.W.findIn K (.ref C) "__len__" = some (some (.ref f26)))
    (i26 : PySem.W.isFn K (.ref f26) = true)
    (x26 : PySem.W.typeIn K (.ref f26) = some (.type "function"))
    (l26 : K.lookup f26 = some ⟨oc26, od26, .func (PySem.W.fnOf "__len__" "Galley.__len__" (defArgs sLen) (defBody sLen) (defScope sLen) .none kV26 dc26 pm26 an26 cd26 ct26), sl26⟩)
    (c26 : PySem.W.codeIn K cd26 "Galley.__len__" = true)
    (k26 : PySem.W.keepIn K (.ref f26) = true)
    (a27 : PySem.W.findIn K (.ref C) "__iter__" = some (some (.ref f27)))
    (i27 : PySem.W.isFn K (.ref f27) = true)
    (l27 : K.lookup f27 = some ⟨oc27, od27, .func (PySem.W.fnOf "__iter__" "Galley.__iter__" (defArgs sIter) (defBody sIter) (defScope sIter) .none kV27 dc27 pm27 an27 cd27 ct27), sl27⟩)
    (c27 : PySem.W.codeIn K cd27 "Galley.__iter__" = true)
    (k27 : PySem.W.keepIn K (.ref f27) = true)
    (a28 : PySem.W.findIn K (.ref C) "__iadd__" = some (some (.ref f28)))
    (i28 : PySem.W.isFn K (.ref f28) = true)
    (x28 : PySem.W.typeIn K (.ref f28) = some (.type "function"))
    (l28 : K.lookup f28 = some ⟨oc28, od28, .func (PySem.W.fnOf "__iadd__" "Galley.__iadd__" (defArgs sIadd) (defBody sIadd) (defScope sIadd) .none kV28 dc28 pm28 an28 cd28 ct28), sl28⟩)
    (c28 : PySem.W.codeIn K cd28 "Galley.__iadd__" = true)
    (k28 : PySem.W.keepIn K (.ref f28) = true)
    (a29 : PySem.W.findIn K (.ref C) "pieces" = some (some (.ref pp29)))
    (pg29 : PySem.W.specialIn K (.ref pp29) "__get__" = some (some (.builtin "property.__get__")))
    (pt29 : PySem.W.takesIn K (.ref pp29) = some true)
    (pr29 : PySem.W.recIn K pp29 "property" = some (.ref f29 :: pl29))
    (l29 : K.lookup f29 = some ⟨oc29, od29, .func (PySem.W.fnOf "pieces" "Galley.pieces" (defArgs sPcs) (defBody sPcs) (defScope sPcs) .none kV29 dc29 pm29 an29 cd29 ct29), sl29⟩)
    (c29 : PySem.W.codeIn K cd29 "Galley.pieces" = true)
    (k29 : PySem.W.keepIn K (.ref f29) = true)
    (a30 : PySem.W.findIn K (.ref C) "figures" = some (some (.ref pp30)))
    (pg30 : PySem.W.specialIn K (.ref pp30) "__get__" = some (some (.builtin "property.__get__")))
    (pt30 : PySem.W.takesIn K (.ref pp30) = some true)
    (pr30 : PySem.W.recIn K pp30 "property" = some (.ref f30 :: pl30))
    (l30 : K.lookup f30 = some ⟨oc30, od30, .func (PySem.W.fnOf "figures" "Galley.figures" (defArgs sFigs) (defBody sFigs) (defScope sFigs) .none kV30 dc30 pm30 an30 cd30 ct30), sl30⟩)
    (c30 : PySem.W.codeIn K cd30 "Galley.figures" = true)
    (k30 : PySem.W.keepIn K (.ref f30) = true)
    (a31 : PySem.W.findIn K (.ref C) "block_at" = some (some (.ref f31)))
    (i31 : PySem.W.isFn K (.ref f31) = true)
    (l31 : K.lookup f31 = some ⟨oc31, od31, .func (PySem.W.fnOf "block_at" "Galley.block_at" (defArgs sBlock) (defBody sBlock) (defScope sBlock) .none kV31 dc31 pm31 an31 cd31 ct31), sl31⟩)
    (c31 : PySem.W.codeIn K cd31 "Galley.block_at" = true)
    (k31 : PySem.W.keepIn K (.ref f31) = true)
    (a32 : PySem.W.findIn K (.ref CB) "__eq__" = some (some (.ref f32)))
    (i32 : PySem.W.isFn K (.ref f32) = true)
    (l32 : K.lookup f32 = some ⟨oc32, od32, .func (PySem.W.fnOf "__eq__" "Book.__eq__" (defArgs Bo.sEq) (defBody Bo.sEq) (defScope Bo.sEq) .none kV32 dc32 pm32 an32 cd32 ct32), sl32⟩)
    (c32 : PySem.W.codeIn K cd32 "Book.__eq__" = true)
    (k32 : PySem.W.keepIn K (.ref f32) = true)
    (a33 : PySem.W.findIn K (.ref CS) "__init__" = some (some (.ref f33)))
    (i33 : PySem.W.isFn K (.ref f33) = true)
    (l33 : K.lookup f33 = some ⟨oc33, od33, .func (PySem.W.fnOf "__init__" "Steps.__init__" (defArgs sSInit) (defBody sSInit) (defScope sSInit) .none kV33 dc33 pm33 an33 cd33 ct33), sl33⟩)
    (c33 : PySem.W.codeIn K cd33 "Steps.__init__" = true)
    (k33 : PySem.W.keepIn K (.ref f33) = true)
    (a34 : PySem.W.findIn K (.ref CS) "is_final" = some (some (.ref f34)))
    (i34 : PySem.W.isFn K (.ref f34) = true)
    (l34 : K.lookup f34 = some ⟨oc34, od34, .func (PySem.W.fnOf "is_final" "Steps.is_final" (defArgs sSFinal) (defBody sSFinal) (defScope sSFinal) .none kV34 dc34 pm34 an34 cd34 ct34), sl34⟩)
    (c34 : PySem.W.codeIn K cd34 "Steps.is_final" = true)
    (k34 : PySem.W.keepIn K (.ref f34) = true)
    (a35 : PySem.W.findIn K (.ref CS) "final_cost" = some (some (.ref f35)))
    (i35 : PySem.W.isFn K (.ref f35) = true)
    (l35 : K.lookup f35 = some ⟨oc35, od35, .func (PySem.W.fnOf "final_cost" "Steps.final_cost" (defArgs sSCost) (defBody sSCost) (defScope sSCost) .none kV35 dc35 pm35 an35 cd35 ct35), sl35⟩)
    (c35 : PySem.W.codeIn K cd35 "Steps.final_cost" = true)
    (k35 : PySem.W.keepIn K (.ref f35) = true)
    (a36 : PySem.W.findIn K (.ref CS) "lines_from" = some (some (.ref f36)))
    (i36 : PySem.W.isFn K (.ref f36) = true)
    (l36 : K.lookup f36 = some ⟨oc36, od36, .func (PySem.W.fnOf "lines_from" "Steps.lines_from" (defArgs sSLines) (defBody sSLines) (defScope sSLines) .none kV36 dc36 pm36 an36 cd36 ct36), sl36⟩)
    (c36 : PySem.W.codeIn K cd36 "Steps.lines_from" = true)
    (k36 : PySem.W.keepIn K (.ref f36) = true)
    (a37 : PySem.W.findIn K (.ref CS) "_found_lines" = some (some (.ref f37)))
    (i37 : PySem.W.isFn K (.ref f37) = true)
    (l37 : K.lookup f37 = some ⟨oc37, od37, .func (PySem.W.fnOf "_found_lines" "Steps._found_lines" (defArgs sSFound) (defBody sSFound) (defScope sSFound) .none kV37 dc37 pm37 an37 cd37 ct37), sl37⟩)
    (c37 : PySem.W.codeIn K cd37 "Steps._found_lines" = true)
    (k37 : PySem.W.keepIn K (.ref f37) = true)
    (a38 : PySem.W.findIn K (.ref CS) "moves" = some (some (.ref f38)))
    (i38 : PySem.W.isFn K (.ref f38) = true)
    (l38 : K.lookup f38 = some ⟨oc38, od38, .func (PySem.W.fnOf "moves" "Steps.moves" (defArgs sSMoves) (defBody sSMoves) (defScope sSMoves) .none kV38 dc38 pm38 an38 cd38 ct38), sl38⟩)
    (c38 : PySem.W.codeIn K cd38 "Steps.moves" = true)
    (k38 : PySem.W.keepIn K (.ref f38) = true)
    (a39 : PySem.W.findIn K (.ref CS) "_moves_with" = some (some (.ref f39)))
    (i39 : PySem.W.isFn K (.ref f39) = true)
    (l39 : K.lookup f39 = some ⟨oc39, od39, .func (PySem.W.fnOf "_moves_with" "Steps._moves_with" (defArgs sSWith) (defBody sSWith) (defScope sSWith) .none kV39 dc39 pm39 an39 cd39 ct39), sl39⟩)
    (c39 : PySem.W.codeIn K cd39 "Steps._moves_with" = true)
    (k39 : PySem.W.keepIn K (.ref f39) = true)
    (a40 : PySem.W.findIn K (.ref CS) "_opening_cost" = some (some (.ref f40)))
    (i40 : PySem.W.isFn K (.ref f40) = true)
    (l40 : K.lookup f40 = some ⟨oc40, od40, .func (PySem.W.fnOf "_opening_cost" "Steps._opening_cost" (defArgs sSOpen) (defBody sSOpen) (defScope sSOpen) .none kV40 dc40 pm40 an40 cd40 ct40), sl40⟩)
    (c40 : PySem.W.codeIn K cd40 "Steps._opening_cost" = true)
    (k40 : PySem.W.keepIn K (.ref f40) = true)
    (a41 : PySem.W.findIn K (.ref CS) "free_height" = some (some (.ref f41)))
    (i41 : PySem.W.isFn K (.ref f41) = true)
    (l41 : K.lookup f41 = some ⟨oc41, od41, .func (PySem.W.fnOf "free_height" "Steps.free_height" (defArgs sSFree) (defBody sSFree) (defScope sSFree) .none kV41 dc41 pm41 an41 cd41 ct41), sl41⟩)
    (c41 : PySem.W.codeIn K cd41 "Steps.free_height" = true)
    (k41 : PySem.W.keepIn K (.ref f41) = true)
    (a42 : PySem.W.findIn K (.ref CS) "is_behind_keep" = some (some (.ref f42)))
    (i42 : PySem.W.isFn K (.ref f42) = true)
    (l42 : K.lookup f42 = some ⟨oc42, od42, .func (PySem.W.fnOf "is_behind_keep" "Steps.is_behind_keep" (defArgs sSKeep) (defBody sSKeep) (defScope sSKeep) .none kV42 dc42 pm42 an42 cd42 ct42), sl42⟩)
    (c42 : PySem.W.codeIn K cd42 "Steps.is_behind_keep" = true)
    (k42 : PySem.W.keepIn K (.ref f42) = true)
    (a43 : PySem.W.findIn K (.ref CT) "__init__" = some (some (.ref f43)))
    (l43 : K.lookup f43 = some ⟨oc43, od43, .func (PySem.W.fnOf "__init__" "TooLarge.__init__" (defArgs sTooI) (defBody sTooI) (defScope sTooI) .none kV43 dc43 pm43 an43 cd43 ct43), sl43⟩)
    (c43 : PySem.W.codeIn K cd43 "TooLarge.__init__" = true)
    (k43 : PySem.W.keepIn K (.ref f43) = true)
    (t43 : PySem.W.typeIn K (.ref f43) = some (.type "function"))
    (a44 : PySem.W.findIn K (.ref CN) "__init__" = some (some (.ref f44)))
    (l44 : K.lookup f44 = some ⟨oc44, od44, .func (PySem.W.fnOf "__init__" "NoSuchNumber.__init__" (defArgs sNoNI) (defBody sNoNI) (defScope sNoNI) .none kV44 dc44 pm44 an44 cd44 ct44), sl44⟩)
    (c44 : PySem.W.codeIn K cd44 "NoSuchNumber.__init__" = true)
    (k44 : PySem.W.keepIn K (.ref f44) = true)
    (t44 : PySem.W.typeIn K (.ref f44) = some (.type "function"))
    (a45 : PySem.W.findIn K (.ref CE) "__init__" = some (some (.ref f45)))
    (l45 : K.lookup f45 = some ⟨oc45, od45, .func (PySem.W.fnOf "__init__" "BadBook.__init__" (defArgs sBadI) (defBody sBadI) (defScope sBadI) .none kV45 dc45 pm45 an45 cd45 ct45), sl45⟩)
    (c45 : PySem.W.codeIn K cd45 "BadBook.__init__" = true)
    (k45 : PySem.W.keepIn K (.ref f45) = true)
    (t45 : PySem.W.typeIn K (.ref f45) = some (.type "function"))
    (z0 : PySem.W.nsIn K mainGlobals "len" = some none)
    (z1 : PySem.W.nsIn K mainGlobals "int" = some none)
    (z2 : PySem.W.nsIn K mainGlobals "str" = some none)
    (z3 : PySem.W.nsIn K mainGlobals "bool" = some none)
    (z4 : PySem.W.nsIn K mainGlobals "tuple" = some none)
    (z5 : PySem.W.nsIn K mainGlobals "list" = some none)
    (z6 : PySem.W.nsIn K mainGlobals "range" = some none)
    (z7 : PySem.W.nsIn K mainGlobals "isinstance" = some none)
    (z8 : PySem.W.nsIn K mainGlobals "iter" = some none)
    (z9 : PySem.W.nsIn K mainGlobals "min" = some none)
    (z10 : PySem.W.nsIn K mainGlobals "max" = some none)
    (z11 : PySem.W.nsIn K mainGlobals "sum" = some none)
    (z12 : PySem.W.nsIn K mainGlobals "zip" = some none)
    (z13 : PySem.W.nsIn K mainGlobals "enumerate" = some none)
    (z14 : PySem.W.nsIn K mainGlobals "ValueError" = some none)
    (z15 : PySem.W.nsIn K mainGlobals "NotImplemented" = some none) :
    ∃ fd : FuncData, (∀ (s : Shared) (v : Value), BindsTo s fd ⟨[v], []⟩ [("_law_script", v)]) ∧ ∀ base : Heap, K.In base → base.Ns mainGlobals mg → FnOk l.prog w K mg base CX0 9 fa fd ["_law_script"] (spLaw K) := by
  have e := hfa.symm.trans (PySem.W.mg_of X G a25); cases e
  have B : Blt mg := ⟨PySem.W.mg_none_of X G z0, PySem.W.mg_none_of X G z1, PySem.W.mg_none_of X G z2, PySem.W.mg_none_of X G z3, PySem.W.mg_none_of X G z4, PySem.W.mg_none_of X G z5, PySem.W.mg_none_of X G z6, PySem.W.mg_none_of X G z7, PySem.W.mg_none_of X G z8, PySem.W.mg_none_of X G z9, PySem.W.mg_none_of X G z10, PySem.W.mg_none_of X G z11, PySem.W.mg_none_of X G z12, PySem.W.mg_none_of X G z13, PySem.W.mg_none_of X G z14, PySem.W.mg_none_of X G z15⟩
  have F1 := fun_mk (st := sGapIn) l1 c1 k1
  have F2 := fun_mk (st := sPrice) l2 c2 k2
  have F3 := fun_mk (st := sMovesOf) l3 c3 k3
  have F4 := fun_mk (st := sFinalCost) l4 c4 k4
  have F5 := fun_mk (st := sCheck) l5 c5 k5
  have F6 := fun_mk (st := sPieces) l6 c6 k6
  have F7 := fun_mk (st := sFigures) l7 c7 k7
  have F8 := fun_mk (st := sOwners) l8 c8 k8
  have F9 := fun_mk (st := sSizes) l9 c9 k9
  have F10 := fun_mk (st := sCell) l10 c10 k10
  have F11 := fun_mk (st := sRow) l11 c11 k11
  have F12 := fun_mk (st := sSame) l12 c12 k12
  have F13 := fun_mk (st := sPiece) l13 c13 k13
  have F14 := fun_mk (st := sBlocks) l14 c14 k14
  have F15 := fun_mk (st := sMerged) l15 c15 k15
  have F16 := fun_mk (st := sWorld) l16 c16 k16
  have F17 := fun_mk (st := sBookOf) l17 c17 k17
  have F18 := fun_mk (st := sFlat) l18 c18 k18
  have F19 := fun_mk (st := sWidthL) l19 c19 k19
  have F20 := fun_mk (st := sLineCostL) l20 c20 k20
  have F21 := fun_mk (st := sNeed) l21 c21 k21
  have F22 := fun_mk (st := sTurn) l22 c22 k22
  have F23 := fun_mk (st := sLawMoves) l23 c23 k23
  have F24 := fun_mk (st := sLawFinal) l24 c24 k24
  have F25 := fun_mk (st := sLaw) l25 c25 k25
  have F26 := fun_mk (st := sLen) l26 c26 k26
  have F27 := fun_mk (st := sIter) l27 c27 k27
  have F28 := fun_mk (st := sIadd) l28 c28 k28
  have F29 := fun_mk (st := sPcs) l29 c29 k29
  have F30 := fun_mk (st := sFigs) l30 c30 k30
  have F31 := fun_mk (st := sBlock) l31 c31 k31
  have F32 := fun_mk (st := Bo.sEq) l32 c32 k32
  have F33 := fun_mk (st := sSInit) l33 c33 k33
  have F34 := fun_mk (st := sSFinal) l34 c34 k34
  have F35 := fun_mk (st := sSCost) l35 c35 k35
  have F36 := fun_mk (st := sSLines) l36 c36 k36
  have F37 := fun_mk (st := sSFound) l37 c37 k37
  have F38 := fun_mk (st := sSMoves) l38 c38 k38
  have F39 := fun_mk (st := sSWith) l39 c39 k39
  have F40 := fun_mk (st := sSOpen) l40 c40 k40
  have F41 := fun_mk (st := sSFree) l41 c41 k41
  have F42 := fun_mk (st := sSKeep) l42 c42 k42
  have F43 := fun_mk (st := sTooI) l43 c43 k43
  have F44 := fun_mk (st := sNoNI) l44 c44 k44
  have F45 := fun_mk (st := sBadI) l45 c45 k45
  have b1 := F1.binds (ps := ["book", "width", "is_last"]) fun _ _ _ _ _ _ us hl => match us, hl with | [_, _, _], _ => rfl
  have b2 := F2.binds (ps := ["book", "width", "is_last", "has_joint"]) fun _ _ _ _ _ _ us hl => match us, hl with | [_, _, _, _], _ => rfl
  have b3 := F3.binds (ps := ["galley", "book", "state"]) fun _ _ _ _ _ _ us hl => match us, hl with | [_, _, _], _ => rfl
  have b4 := F4.binds (ps := ["galley", "book", "state"]) fun _ _ _ _ _ _ us hl => match us, hl with | [_, _, _], _ => rfl
  have b5 := F5.binds (ps := ["name", "value"]) fun _ _ _ _ _ _ us hl => match us, hl with | [_, _], _ => rfl
  have b6 := F6.binds (ps := ["blocks"]) fun _ _ _ _ _ _ us hl => match us, hl with | [_], _ => rfl
  have b7 := F7.binds (ps := ["pieces"]) fun _ _ _ _ _ _ us hl => match us, hl with | [_], _ => rfl
  have b8 := F8.binds (ps := ["blocks"]) fun _ _ _ _ _ _ us hl => match us, hl with | [_], _ => rfl
  have b9 := F9.binds (ps := ["blocks"]) fun _ _ _ _ _ _ us hl => match us, hl with | [_], _ => rfl
  have b10 := F10.binds (ps := ["_law_script", "_law_k"]) fun _ _ _ _ _ _ us hl => match us, hl with | [_, _], _ => rfl
  have b11 := F11.binds (ps := ["_law_cell_here", "_law_limits"]) fun _ _ _ _ _ _ us hl => match us, hl with | [_, _], _ => rfl
  have b12 := F12.binds (ps := ["_law_one", "_law_two"]) fun _ _ _ _ _ _ us hl => match us, hl with | [_, _], _ => rfl
  have b13 := F13.binds (ps := ["_law_row_here", "_law_last", "_law_left", "_law_tall"]) fun _ _ _ _ _ _ us hl => match us, hl with | [_, _, _, _], _ => rfl
  have b14 := F14.binds (ps := ["_law_cells", "_law_many", "_law_cap", "_law_wide", "_law_tall"]) fun _ _ _ _ _ _ us hl => match us, hl with | [_, _, _, _, _], _ => rfl
  have b15 := F15.binds (ps := ["_law_blocks"]) fun _ _ _ _ _ _ us hl => match us, hl with | [_], _ => rfl
  have b16 := F16.binds (ps := ["_law_script", "_law_usual", "_law_rare", "_law_steep"]) fun _ _ _ _ _ _ us hl => match us, hl with | [_, _, _, _], _ => rfl
  have b17 := F17.binds (ps := ["_law_nums"]) fun _ _ _ _ _ _ us hl => match us, hl with | [_], _ => rfl
  have b18 := F18.binds (ps := ["_law_blocks"]) fun _ _ _ _ _ _ us hl => match us, hl with | [_], _ => rfl
  have b19 := F19.binds (ps := ["_law_blocks", "_law_flat_here", "_law_start", "_law_end"]) fun _ _ _ _ _ _ us hl => match us, hl with | [_, _, _, _], _ => rfl
  have b20 := F20.binds (ps := ["_law_blocks", "_law_flat_here", "_law_nums", "_law_start", "_law_end"]) fun _ _ _ _ _ _ us hl => match us, hl with | [_, _, _, _, _], _ => rfl
  have b21 := F21.binds (ps := ["_law_blocks", "_law_flat_here", "_law_start", "_law_end"]) fun _ _ _ _ _ _ us hl => match us, hl with | [_, _, _, _], _ => rfl
  have b22 := F22.binds (ps := ["_law_blocks", "_law_flat_here", "_law_nums", "_law_state", "_law_end"]) fun _ _ _ _ _ _ us hl => match us, hl with | [_, _, _, _, _], _ => rfl
  have b23 := F23.binds (ps := ["_law_blocks", "_law_flat_here", "_law_nums", "_law_state"]) fun _ _ _ _ _ _ us hl => match us, hl with | [_, _, _, _], _ => rfl
  have b24 := F24.binds (ps := ["_law_flat_here", "_law_nums", "_law_state"]) fun _ _ _ _ _ _ us hl => match us, hl with | [_, _, _], _ => rfl
  have b26 := F26.binds (ps := ["self"]) fun _ _ _ _ _ _ us hl => match us, hl with | [_], _ => rfl
  have b27 := F27.binds (ps := ["self"]) fun _ _ _ _ _ _ us hl => match us, hl with | [_], _ => rfl
  have b28 := F28.binds (ps := ["self", "other"]) fun _ _ _ _ _ _ us hl => match us, hl with | [_, _], _ => rfl
  have b29 := F29.binds (ps := ["self"]) fun _ _ _ _ _ _ us hl => match us, hl with | [_], _ => rfl
  have b30 := F30.binds (ps := ["self"]) fun _ _ _ _ _ _ us hl => match us, hl with | [_], _ => rfl
  have b31 := F31.binds (ps := ["self", "piece"]) fun _ _ _ _ _ _ us hl => match us, hl with | [_, _], _ => rfl
  have b32 := F32.binds (ps := ["self", "other"]) fun _ _ _ _ _ _ us hl => match us, hl with | [_, _], _ => rfl
  have b33 := F33.binds (ps := ["self", "galley", "book"]) fun _ _ _ _ _ _ us hl => match us, hl with | [_, _, _], _ => rfl
  have b34 := F34.binds (ps := ["self", "state"]) fun _ _ _ _ _ _ us hl => match us, hl with | [_, _], _ => rfl
  have b35 := F35.binds (ps := ["self", "state"]) fun _ _ _ _ _ _ us hl => match us, hl with | [_, _], _ => rfl
  have b36 := F36.binds (ps := ["self", "start"]) fun _ _ _ _ _ _ us hl => match us, hl with | [_, _], _ => rfl
  have b37 := F37.binds (ps := ["self", "start"]) fun _ _ _ _ _ _ us hl => match us, hl with | [_, _], _ => rfl
  have b38 := F38.binds (ps := ["self", "state"]) fun _ _ _ _ _ _ us hl => match us, hl with | [_, _], _ => rfl
  have b39 := F39.binds (ps := ["self", "state", "line"]) fun _ _ _ _ _ _ us hl => match us, hl with | [_, _, _], _ => rfl
  have b40 := F40.binds (ps := ["self", "state", "left", "is_widow"]) fun _ _ _ _ _ _ us hl => match us, hl with | [_, _, _, _], _ => rfl
  have b41 := F41.binds (ps := ["self", "state"]) fun _ _ _ _ _ _ us hl => match us, hl with | [_, _], _ => rfl
  have b42 := F42.binds (ps := ["self", "state"]) fun _ _ _ _ _ _ us hl => match us, hl with | [_, _], _ => rfl
  have b43 := F43.binds (ps := ["self", "many"]) fun _ _ _ _ _ _ us hl => match us, hl with | [_, _], _ => rfl
  have b44 := F44.binds (ps := ["self", "number"]) fun _ _ _ _ _ _ us hl => match us, hl with | [_, _], _ => rfl
  have b45 := F45.binds (ps := ["self", "field"]) fun _ _ _ _ _ _ us hl => match us, hl with | [_, _], _ => rfl
  have Z : Cst mg tk0 tk1 := ⟨PySem.W.mg_of X G c_MOST_PIECES, PySem.W.mg_of X G c_MOST_FIGURES⟩
  have ZT : CsT mg tk2 tk3 := ⟨PySem.W.mg_of X G c_BLANK_TIE, PySem.W.mg_of X G c_JOINT_TIE⟩
  have T : Gly K mg C := ⟨⟨pgC, hdC, poC, saC⟩, nC_blocks, nC_pieces, nC_owners, PySem.W.mg_of X G aC, ig_ha, ig_hn, ig_ht, ig_hm, ig_me, ig_kl⟩
  have M : Mk K C fc := ⟨mkC, w_a, w_i, kcC⟩
  have TB : Bo.Bok K mg CB FT (.type "type") (.ref FT) := ⟨⟨pgCB, hdCB, poCB, saCB⟩, nCB_room, nCB_height, nCB_joint, nCB_over, nCB_keep, nCB_orphan, nCB_widow, nCB_wait, nCB_columns, nCB_gutter, nCB_full, nCB_worths, PySem.W.mg_of X G aCB, ⟨fd_rd, fd_ga⟩, ⟨fd_at, rfl⟩, fun H => .inr ⟨_, _, _, fd_l, rfl, rfl, by show 11 ≤ sizeLine; decide, .cons ⟨_, rfl⟩ (.cons ⟨_, rfl⟩ (.cons ⟨_, rfl⟩ (.cons ⟨_, rfl⟩ (.cons ⟨_, rfl⟩ (.cons ⟨_, rfl⟩ (.cons ⟨_, rfl⟩ (.cons ⟨_, rfl⟩ (.cons ⟨_, rfl⟩ (.cons ⟨_, rfl⟩ (.cons ⟨_, rfl⟩ (.nil)))))))))))⟩⟩
  have IB : Bo.BkI K CB := ⟨ib_ha, ib_hn, ib_ht, ib_hm, ib_me, ib_kl, ib_kt⟩
  have MB : Mk K CB bc := ⟨mkCB, v_a, v_i, kcCB⟩
  have TS : Stp K mg CS := ⟨⟨pgCS, hdCS, poCS, saCS⟩, nCS_book, nCS_blocks, nCS_all, nCS_owners, nCS_heights, nCS_called, nCS_lines, PySem.W.mg_of X G aCS⟩
  have tST : ∀ H, SqT K H ST0 [.int 0, .int 0, .int 0, .bl false] := fun H => .inr ⟨_, _, _, st_l, rfl, rfl, by show 4 ≤ sizeLine; decide, .cons ⟨_, rfl⟩ (.cons ⟨_, rfl⟩ (.cons ⟨_, rfl⟩ (.cons rfl .nil)))⟩
  have NT : TlE K mg CT f43 _ := ⟨PySem.W.mg_of X G aCT, ⟨⟨nm_CT, q_CT, N_CT, bs_CT, bm_CT, sn_CT, sub_CT, ab_CT, col_CT, dd_CT, m0_CT, m1_CT, m2_CT, m3_CT, m5_CT, x_CT, xb_CT⟩, sa_CT, xe_CT, xt_CT, xk_CT⟩, f_CT_many, a43, t43, F43, b43⟩
  have NN : NnE K mg CN f44 _ := ⟨PySem.W.mg_of X G aCN, ⟨⟨nm_CN, q_CN, N_CN, bs_CN, bm_CN, sn_CN, sub_CN, ab_CN, col_CN, dd_CN, m0_CN, m1_CN, m2_CN, m3_CN, m5_CN, x_CN, xb_CN⟩, sa_CN, xe_CN, xt_CN, xk_CN⟩, f_CN_number, a44, t44, F44, b44⟩
  have NB : BbE K mg CE f45 _ := ⟨PySem.W.mg_of X G aCE, ⟨⟨nm_CE, q_CE, N_CE, bs_CE, bm_CE, sn_CE, sub_CE, ab_CE, col_CE, dd_CE, m0_CE, m1_CE, m2_CE, m3_CE, m5_CE, x_CE, xb_CE⟩, sa_CE, xe_CE, xt_CE, xk_CE⟩, f_CE_field, a45, t45, F45, b45⟩
  have N : Bo.Num K w ND := ⟨⟨ndes, ndn, ⟨nd_at, nd_lit, nd_low⟩⟩, fun k hk => match k, hk with
    | 0, _ => ⟨nt0, _, _, nn0, nk0, nl0, rfl, rfl, by show 2 ≤ sizeLine; decide, .cons ⟨_, rfl⟩ (.cons ⟨_, rfl⟩ .nil)⟩
    | 1, _ => ⟨nt1, _, _, nn1, nk1, nl1, rfl, rfl, by show 2 ≤ sizeLine; decide, .cons ⟨_, rfl⟩ (.cons ⟨_, rfl⟩ .nil)⟩
    | 2, _ => ⟨nt2, _, _, nn2, nk2, nl2, rfl, rfl, by show 2 ≤ sizeLine; decide, .cons ⟨_, rfl⟩ (.cons ⟨_, rfl⟩ .nil)⟩
    | 3, _ => ⟨nt3, _, _, nn3, nk3, nl3, rfl, rfl, by show 2 ≤ sizeLine; decide, .cons ⟨_, rfl⟩ (.cons ⟨_, rfl⟩ .nil)⟩
    | 4, _ => ⟨nt4, _, _, nn4, nk4, nl4, rfl, rfl, by show 2 ≤ sizeLine; decide, .cons ⟨_, rfl⟩ (.cons ⟨_, rfl⟩ .nil)⟩
    | 5, _ => ⟨nt5, _, _, nn5, nk5, nl5, rfl, rfl, by show 2 ≤ sizeLine; decide, .cons ⟨_, rfl⟩ (.cons ⟨_, rfl⟩ .nil)⟩
    | 6, _ => ⟨nt6, _, _, nn6, nk6, nl6, rfl, rfl, by show 2 ≤ sizeLine; decide, .cons ⟨_, rfl⟩ (.cons ⟨_, rfl⟩ .nil)⟩
    | 7, _ => ⟨nt7, _, _, nn7, nk7, nl7, rfl, rfl, by show 2 ≤ sizeLine; decide, .cons ⟨_, rfl⟩ (.cons ⟨_, rfl⟩ .nil)⟩
    | 8, _ => ⟨nt8, _, _, nn8, nk8, nl8, rfl, rfl, by show 2 ≤ sizeLine; decide, .cons ⟨_, rfl⟩ (.cons ⟨_, rfl⟩ .nil)⟩
    | 9, _ => ⟨nt9, _, _, nn9, nk9, nl9, rfl, rfl, by show 2 ≤ sizeLine; decide, .cons ⟨_, rfl⟩ (.cons ⟨_, rfl⟩ .nil)⟩
    , nk_no⟩
  have FC : InitD K d0 fc _ := ⟨⟨occ, odc, .ref TD, kVc, dcc, pmc, anc, cdc, ctc, slc, rfl, w_l, w_c, .inr ⟨(fun z => nomatch z), TD, _, [.ref d0], nT, rfl, w_T, rfl, .cons rfl .nil⟩, .inl rfl⟩, w_k⟩
  have FBK : Bo.InitD K bc _ := ⟨⟨ocb, odb, .none, .ref KD, dcb, pmb, anb, cdb, ctb, slb, rfl, v_l, v_c, .inl ⟨rfl, rfl⟩, .inr ⟨KD, rfl, fun q hq => by
    simp only [List.mem_cons, List.not_mem_nil, or_false] at hq
    rcases hq with rfl | rfl | rfl | rfl | rfl | rfl | rfl | rfl | rfl
    · exact ⟨_, kw_joint, ⟨_, rfl⟩⟩
    · exact ⟨_, kw_over, ⟨_, rfl⟩⟩
    · exact ⟨_, kw_keep, ⟨_, rfl⟩⟩
    · exact ⟨_, kw_orphan, ⟨_, rfl⟩⟩
    · exact ⟨_, kw_widow, ⟨_, rfl⟩⟩
    · exact ⟨_, kw_wait, ⟨_, rfl⟩⟩
    · exact ⟨_, kw_columns, ⟨_, rfl⟩⟩
    · exact ⟨_, kw_gutter, ⟨_, rfl⟩⟩
    · exact ⟨_, kw_full, rfl⟩
    ⟩⟩, v_k⟩
  exact ⟨PySem.W.fnOf "law" "law" (defArgs sLaw) (defBody sLaw) (defScope sLaw) .none kV25 dc25 pm25 an25 cd25 ct25, fun s v => .of_eq rfl, fun base _ _ =>
    ok_law B Z ZT T M FC TB IB MB FBK TS ⟨mkCS, a33, i33, kcCS⟩ NT NN NB N (PySem.W.mg_of X G aND) (PySem.W.mg_of X G aST0) st_l rfl tST ic_cd F25 F26 b26 ⟨a26, x26⟩ F27 b27 ⟨a27, i27⟩ F28 b28 ⟨a28, x28⟩ F29 b29 ⟨a29, pg29, pt29, ⟨_, pr29⟩⟩ F30 b30 ⟨a30, pg30, pt30, ⟨_, pr30⟩⟩ F31 b31 ⟨a31, i31, k31⟩ F32 b32 ⟨a32, i32⟩ F33 b33 F34 b34 ⟨a34, i34, k34⟩ F35 b35 ⟨a35, i35, k35⟩ F36 b36 ⟨a36, i36, k36⟩ F37 b37 ⟨a37, i37, k37⟩ F38 b38 ⟨a38, i38, k38⟩ F39 b39 ⟨a39, i39, k39⟩ F40 b40 ⟨a40, i40, k40⟩ F41 b41 ⟨a41, i41, k41⟩ F42 b42 ⟨a42, i42, k42⟩ F1 b1 (PySem.W.mg_of X G a1) F2 b2 (PySem.W.mg_of X G a2) F3 b3 (PySem.W.mg_of X G a3) F4 b4 (PySem.W.mg_of X G a4) F5 b5 (PySem.W.mg_of X G a5) F6 b6 (PySem.W.mg_of X G a6) F7 b7 (PySem.W.mg_of X G a7) F8 b8 (PySem.W.mg_of X G a8) F9 b9 (PySem.W.mg_of X G a9) F10 b10 (PySem.W.mg_of X G a10) F11 b11 (PySem.W.mg_of X G a11) F12 b12 (PySem.W.mg_of X G a12) F13 b13 (PySem.W.mg_of X G a13) F14 b14 (PySem.W.mg_of X G a14) F15 b15 (PySem.W.mg_of X G a15) F16 b16 (PySem.W.mg_of X G a16) F17 b17 (PySem.W.mg_of X G a17) F18 b18 (PySem.W.mg_of X G a18) F19 b19 (PySem.W.mg_of X G a19) F20 b20 (PySem.W.mg_of X G a20) F21 b21 (PySem.W.mg_of X G a21) F22 b22 (PySem.W.mg_of X G a22) F23 b23 (PySem.W.mg_of X G a23) F24 b24 (PySem.W.mg_of X G a24)⟩
end K37
open PySem PySem.W PyProof.Rows
set_option maxRecDepth 100000 in
set_option maxHeartbeats 0 in
theorem PySem.Challenge.cw_laidforall_k37_moves_holds : PySem.Challenge.rw_laidforall_k37_moves.Holds := by
  w_on; o_law; k_head; (case hw => w_witness2)
  k_fill
  refine L2.walk_of (l := PySem.Challenge.rw_laidforall_k37_moves) (n := 63) (k := 9) (x := "_law_script") (CX := fun _ => L2.CX0) (sp := fun w => K37.spLaw _) rfl (by decide) rfl ⟨rfl, by decide, by decide⟩ (fun w h Y => PySem.W.kIn_of Y) ?F (fun _ _ a ns hl _ hS => ⟨a, ns, rfl, hS, hl, fun _ => rfl⟩) (fun _ _ _ _ _ h => h)
  case F =>
    intro w mg fa h KX G hmg
    refine' K37.all_mk KX G hmg ?zz_c_MOST_PIECES ?zz_c_MOST_FIGURES ?zz_c_BLANK_TIE ?zz_c_JOINT_TIE ?zz_aC ?zz_pgC ?zz_hdC ?zz_poC ?zz_saC ?zz_mkC ?zz_kcC ?zz_nC_blocks ?zz_nC_pieces ?zz_nC_owners ?zz_aCB ?zz_pgCB ?zz_hdCB ?zz_poCB ?zz_saCB ?zz_mkCB ?zz_kcCB ?zz_nCB_room ?zz_nCB_height ?zz_nCB_joint ?zz_nCB_over ?zz_nCB_keep ?zz_nCB_orphan ?zz_nCB_widow ?zz_nCB_wait ?zz_nCB_columns ?zz_nCB_gutter ?zz_nCB_full ?zz_nCB_worths ?zz_aCS ?zz_pgCS ?zz_hdCS ?zz_poCS ?zz_saCS ?zz_mkCS ?zz_kcCS ?zz_nCS_book ?zz_nCS_blocks ?zz_nCS_all ?zz_nCS_owners ?zz_nCS_heights ?zz_nCS_called ?zz_nCS_lines ?zz_aND ?zz_aST0 ?zz_aCT ?zz_x_CT ?zz_xb_CT ?zz_sa_CT ?zz_xe_CT ?zz_xt_CT ?zz_xk_CT ?zz_f_CT_many ?zz_hg_CT ?zz_hk_CT ?zz_hd_CT ?zz_ha_CT ?zz_hn_CT ?zz_ht_CT ?zz_hm_CT ?zz_ls_CT ?zz_aCN ?zz_x_CN ?zz_xb_CN ?zz_sa_CN ?zz_xe_CN ?zz_xt_CN ?zz_xk_CN ?zz_f_CN_number ?zz_hg_CN ?zz_hk_CN ?zz_hd_CN ?zz_ha_CN ?zz_hn_CN ?zz_ht_CN ?zz_hm_CN ?zz_ls_CN ?zz_aCE ?zz_x_CE ?zz_xb_CE ?zz_sa_CE ?zz_xe_CE ?zz_xt_CE ?zz_xk_CE ?zz_f_CE_field ?zz_hg_CE ?zz_hk_CE ?zz_hd_CE ?zz_ha_CE ?zz_hn_CE ?zz_ht_CE ?zz_hm_CE ?zz_ls_CE ?zz_ig_ha ?zz_ig_hn ?zz_ig_ht ?zz_ig_hm ?zz_ig_me ?zz_ig_kl ?zz_ib_ha ?zz_ib_hn ?zz_ib_ht ?zz_ib_hm ?zz_ib_me ?zz_ib_kl ?zz_ib_kt ?zz_ic_cd ?zz_w_a ?zz_w_i ?zz_w_k ?zz_w_l ?zz_w_c ?zz_w_T ?zz_w_0 ?zz_v_a ?zz_v_i ?zz_v_k ?zz_v_l ?zz_v_c ?zz_fd_at ?zz_fd_rd ?zz_fd_ga ?zz_fd_l ?zz_kw_joint ?zz_kw_over ?zz_kw_keep ?zz_kw_orphan ?zz_kw_widow ?zz_kw_wait ?zz_kw_columns ?zz_kw_gutter ?zz_kw_full ?zz_nd_at ?zz_nd_lit ?zz_nd_low ?zz_nk0 ?zz_nl0 ?zz_nk1 ?zz_nl1 ?zz_nk2 ?zz_nl2 ?zz_nk3 ?zz_nl3 ?zz_nk4 ?zz_nl4 ?zz_nk5 ?zz_nl5 ?zz_nk6 ?zz_nl6 ?zz_nk7 ?zz_nl7 ?zz_nk8 ?zz_nl8 ?zz_nk9 ?zz_nl9 ?zz_st_l ?zz_nk_no ?zz_a1 ?zz_l1 ?zz_c1 ?zz_k1 ?zz_a2 ?zz_l2 ?zz_c2 ?zz_k2 ?zz_a3 ?zz_l3 ?zz_c3 ?zz_k3 ?zz_a4 ?zz_l4 ?zz_c4 ?zz_k4 ?zz_a5 ?zz_l5 ?zz_c5 ?zz_k5 ?zz_a6 ?zz_l6 ?zz_c6 ?zz_k6 ?zz_a7 ?zz_l7 ?zz_c7 ?zz_k7 ?zz_a8 ?zz_l8 ?zz_c8 ?zz_k8 ?zz_a9 ?zz_l9 ?zz_c9 ?zz_k9 ?zz_a10 ?zz_l10 ?zz_c10 ?zz_k10 ?zz_a11 ?zz_l11 ?zz_c11 ?zz_k11 ?zz_a12 ?zz_l12 ?zz_c12 ?zz_k12 ?zz_a13 ?zz_l13 ?zz_c13 ?zz_k13 ?zz_a14 ?zz_l14 ?zz_c14 ?zz_k14 ?zz_a15 ?zz_l15 ?zz_c15 ?zz_k15 ?zz_a16 ?zz_l16 ?zz_c16 ?zz_k16 ?zz_a17 ?zz_l17 ?zz_c17 ?zz_k17 ?zz_a18 ?zz_l18 ?zz_c18 ?zz_k18 ?zz_a19 ?zz_l19 ?zz_c19 ?zz_k19 ?zz_a20 ?zz_l20 ?zz_c20 ?zz_k20 ?zz_a21 ?zz_l21 ?zz_c21 ?zz_k21 ?zz_a22 ?zz_l22 ?zz_c22 ?zz_k22 ?zz_a23 ?zz_l23 ?zz_c23 ?zz_k23 ?zz_a24 ?zz_l24 ?zz_c24 ?zz_k24 ?zz_a25 ?zz_l25 ?zz_c25 ?zz_k25 ?zz_a26 ?zz_i26 ?zz_x26 ?zz_l26 ?zz_c26 ?zz_k26 ?zz_a27 ?zz_i27 ?zz_l27 ?zz_c27 ?zz_k27 ?zz_a28 ?zz_i28 ?zz_x28 ?zz_l28 ?zz_c28 ?zz_k28 ?zz_a29 ?zz_pg29 ?zz_pt29 ?zz_pr29 ?zz_l29 ?zz_c29 ?zz_k29 ?zz_a30 ?zz_pg30 ?zz_pt30 ?zz_pr30 ?zz_l30 ?zz_c30 ?zz_k30 ?zz_a31 ?zz_i31 ?zz_l31 ?zz_c31 ?zz_k31 ?zz_a32 ?zz_i32 ?zz_l32 ?zz_c32 ?zz_k32 ?zz_a33 ?zz_i33 ?zz_l33 ?zz_c33 ?zz_k33 ?zz_a34 ?zz_i34 ?zz_l34 ?zz_c34 ?zz_k34 ?zz_a35 ?zz_i35 ?zz_l35 ?zz_c35 ?zz_k35 ?zz_a36 ?zz_i36 ?zz_l36 ?zz_c36 ?zz_k36 ?zz_a37 ?zz_i37 ?zz_l37 ?zz_c37 ?zz_k37 ?zz_a38 ?zz_i38 ?zz_l38 ?zz_c38 ?zz_k38 ?zz_a39 ?zz_i39 ?zz_l39 ?zz_c39 ?zz_k39 ?zz_a40 ?zz_i40 ?zz_l40 ?zz_c40 ?zz_k40 ?zz_a41 ?zz_i41 ?zz_l41 ?zz_c41 ?zz_k41 ?zz_a42 ?zz_i42 ?zz_l42 ?zz_c42 ?zz_k42 ?zz_a43 ?zz_l43 ?zz_c43 ?zz_k43 ?zz_t43 ?zz_a44 ?zz_l44 ?zz_c44 ?zz_k44 ?zz_t44 ?zz_a45 ?zz_l45 ?zz_c45 ?zz_k45 ?zz_t45 ?zz_z0 ?zz_z1 ?zz_z2 ?zz_z3 ?zz_z4 ?zz_z5 ?zz_z6 ?zz_z7 ?zz_z8 ?zz_z9 ?zz_z10 ?zz_z11 ?zz_z12 ?zz_z13 ?zz_z14 ?zz_z15
    (case zz_c_MOST_PIECES => first | k_is | rfl)
    (case zz_c_MOST_FIGURES => first | k_is | rfl)
    (case zz_c_BLANK_TIE => first | k_is | rfl)
    (case zz_c_JOINT_TIE => first | k_is | rfl)
    (case zz_aC => first | k_is | rfl)
    (case zz_pgC => first | k_is | rfl)
    (case zz_hdC => first | k_is | rfl)
    (case zz_poC => first | k_is | rfl)
    (case zz_saC => first | k_is | rfl)
    (case zz_mkC => first | k_is | rfl)
    (case zz_kcC => first | k_is | rfl)
    (case zz_nC_blocks => first | k_is | rfl)
    (case zz_nC_pieces => first | k_is | rfl)
    (case zz_nC_owners => first | k_is | rfl)
    (case zz_aCB => first | k_is | rfl)
    (case zz_pgCB => first | k_is | rfl)
    (case zz_hdCB => first | k_is | rfl)
    (case zz_poCB => first | k_is | rfl)
    (case zz_saCB => first | k_is | rfl)
    (case zz_mkCB => first | k_is | rfl)
    (case zz_kcCB => first | k_is | rfl)
    (case zz_nCB_room => first | k_is | rfl)
    (case zz_nCB_height => first | k_is | rfl)
    (case zz_nCB_joint => first | k_is | rfl)
    (case zz_nCB_over => first | k_is | rfl)
    (case zz_nCB_keep => first | k_is | rfl)
    (case zz_nCB_orphan => first | k_is | rfl)
    (case zz_nCB_widow => first | k_is | rfl)
    (case zz_nCB_wait => first | k_is | rfl)
    (case zz_nCB_columns => first | k_is | rfl)
    (case zz_nCB_gutter => first | k_is | rfl)
    (case zz_nCB_full => first | k_is | rfl)
    (case zz_nCB_worths => first | k_is | rfl)
    (case zz_aCS => first | k_is | rfl)
    (case zz_pgCS => first | k_is | rfl)
    (case zz_hdCS => first | k_is | rfl)
    (case zz_poCS => first | k_is | rfl)
    (case zz_saCS => first | k_is | rfl)
    (case zz_mkCS => first | k_is | rfl)
    (case zz_kcCS => first | k_is | rfl)
    (case zz_nCS_book => first | k_is | rfl)
    (case zz_nCS_blocks => first | k_is | rfl)
    (case zz_nCS_all => first | k_is | rfl)
    (case zz_nCS_owners => first | k_is | rfl)
    (case zz_nCS_heights => first | k_is | rfl)
    (case zz_nCS_called => first | k_is | rfl)
    (case zz_nCS_lines => first | k_is | rfl)
    (case zz_aND => first | k_is | rfl)
    (case zz_aST0 => first | k_is | rfl)
    (case zz_aCT => first | k_is | rfl)
    (case zz_x_CT => first | k_is | rfl)
    (case zz_xb_CT => decide +kernel)
    (case zz_sa_CT => first | k_is | rfl)
    (case zz_xe_CT => first | k_is | rfl)
    (case zz_xt_CT => first | k_is | rfl)
    (case zz_xk_CT => first | k_is | rfl)
    (case zz_f_CT_many => first | k_is | rfl)
    (case zz_hg_CT => first | k_is | rfl)
    (case zz_hk_CT => first | k_is | rfl)
    (case zz_hd_CT => first | k_is | rfl)
    (case zz_ha_CT => first | k_is | rfl)
    (case zz_hn_CT => first | k_is | rfl)
    (case zz_ht_CT => first | k_is | rfl)
    (case zz_hm_CT => first | k_is | rfl)
    (case zz_ls_CT => first | k_is | rfl)
    (case zz_aCN => first | k_is | rfl)
    (case zz_x_CN => first | k_is | rfl)
    (case zz_xb_CN => decide +kernel)
    (case zz_sa_CN => first | k_is | rfl)
    (case zz_xe_CN => first | k_is | rfl)
    (case zz_xt_CN => first | k_is | rfl)
    (case zz_xk_CN => first | k_is | rfl)
    (case zz_f_CN_number => first | k_is | rfl)
    (case zz_hg_CN => first | k_is | rfl)
    (case zz_hk_CN => first | k_is | rfl)
    (case zz_hd_CN => first | k_is | rfl)
    (case zz_ha_CN => first | k_is | rfl)
    (case zz_hn_CN => first | k_is | rfl)
    (case zz_ht_CN => first | k_is | rfl)
    (case zz_hm_CN => first | k_is | rfl)
    (case zz_ls_CN => first | k_is | rfl)
    (case zz_aCE => first | k_is | rfl)
    (case zz_x_CE => first | k_is | rfl)
    (case zz_xb_CE => decide +kernel)
    (case zz_sa_CE => first | k_is | rfl)
    (case zz_xe_CE => first | k_is | rfl)
    (case zz_xt_CE => first | k_is | rfl)
    (case zz_xk_CE => first | k_is | rfl)
    (case zz_f_CE_field => first | k_is | rfl)
    (case zz_hg_CE => first | k_is | rfl)
    (case zz_hk_CE => first | k_is | rfl)
    (case zz_hd_CE => first | k_is | rfl)
    (case zz_ha_CE => first | k_is | rfl)
    (case zz_hn_CE => first | k_is | rfl)
    (case zz_ht_CE => first | k_is | rfl)
    (case zz_hm_CE => first | k_is | rfl)
    (case zz_ls_CE => first | k_is | rfl)
    (case zz_ig_ha => first | k_is | rfl)
    (case zz_ig_hn => first | k_is | rfl)
    (case zz_ig_ht => first | k_is | rfl)
    (case zz_ig_hm => first | k_is | rfl)
    (case zz_ig_me => first | k_is | rfl)
    (case zz_ig_kl => first | k_is | rfl)
    (case zz_ib_ha => first | k_is | rfl)
    (case zz_ib_hn => first | k_is | rfl)
    (case zz_ib_ht => first | k_is | rfl)
    (case zz_ib_hm => first | k_is | rfl)
    (case zz_ib_me => first | k_is | rfl)
    (case zz_ib_kl => first | k_is | rfl)
    (case zz_ib_kt => first | k_is | rfl)
    (case zz_ic_cd => exact ⟨_, _, rfl, rfl⟩)
    (case zz_w_a => first | k_is | rfl)
    (case zz_w_i => first | k_is | rfl)
    (case zz_w_k => first | k_is | rfl)
    (case zz_w_l => first | k_is | rfl)
    (case zz_w_c => first | k_is | rfl)
    (case zz_w_T => first | k_is | rfl)
    (case zz_w_0 => first | k_is | rfl)
    (case zz_v_a => first | k_is | rfl)
    (case zz_v_i => first | k_is | rfl)
    (case zz_v_k => first | k_is | rfl)
    (case zz_v_l => first | k_is | rfl)
    (case zz_v_c => first | k_is | rfl)
    (case zz_fd_at => first | k_is | rfl)
    (case zz_fd_rd => first | k_is | rfl)
    (case zz_fd_ga => first | k_is | rfl)
    (case zz_fd_l => first | k_is | rfl)
    (case zz_kw_joint => first | k_is | rfl)
    (case zz_kw_over => first | k_is | rfl)
    (case zz_kw_keep => first | k_is | rfl)
    (case zz_kw_orphan => first | k_is | rfl)
    (case zz_kw_widow => first | k_is | rfl)
    (case zz_kw_wait => first | k_is | rfl)
    (case zz_kw_columns => first | k_is | rfl)
    (case zz_kw_gutter => first | k_is | rfl)
    (case zz_kw_full => first | k_is | rfl)
    (case zz_nd_at => first | k_is | rfl)
    (case zz_nd_lit => exact ⟨⟨_, _, rfl, rfl⟩, ⟨_, _, rfl, rfl⟩, ⟨_, _, rfl, rfl⟩, ⟨_, _, rfl, rfl⟩, ⟨_, _, rfl, rfl⟩, ⟨_, _, rfl, rfl⟩, ⟨_, _, rfl, rfl⟩, ⟨_, _, rfl, rfl⟩, ⟨_, _, rfl, rfl⟩, ⟨_, _, rfl, rfl⟩, trivial⟩)
    (case zz_nd_low => first | k_is | rfl)
    (case zz_nk0 => first | k_is | rfl)
    (case zz_nl0 => first | k_is | rfl)
    (case zz_nk1 => first | k_is | rfl)
    (case zz_nl1 => first | k_is | rfl)
    (case zz_nk2 => first | k_is | rfl)
    (case zz_nl2 => first | k_is | rfl)
    (case zz_nk3 => first | k_is | rfl)
    (case zz_nl3 => first | k_is | rfl)
    (case zz_nk4 => first | k_is | rfl)
    (case zz_nl4 => first | k_is | rfl)
    (case zz_nk5 => first | k_is | rfl)
    (case zz_nl5 => first | k_is | rfl)
    (case zz_nk6 => first | k_is | rfl)
    (case zz_nl6 => first | k_is | rfl)
    (case zz_nk7 => first | k_is | rfl)
    (case zz_nl7 => first | k_is | rfl)
    (case zz_nk8 => first | k_is | rfl)
    (case zz_nl8 => first | k_is | rfl)
    (case zz_nk9 => first | k_is | rfl)
    (case zz_nl9 => first | k_is | rfl)
    (case zz_st_l => first | k_is | rfl)
    (case zz_nk_no => first | k_is | rfl)
    (case zz_a1 => first | k_is | rfl)
    (case zz_l1 => first | k_is | rfl)
    (case zz_c1 => first | k_is | rfl)
    (case zz_k1 => first | k_is | rfl)
    (case zz_a2 => first | k_is | rfl)
    (case zz_l2 => first | k_is | rfl)
    (case zz_c2 => first | k_is | rfl)
    (case zz_k2 => first | k_is | rfl)
    (case zz_a3 => first | k_is | rfl)
    (case zz_l3 => first | k_is | rfl)
    (case zz_c3 => first | k_is | rfl)
    (case zz_k3 => first | k_is | rfl)
    (case zz_a4 => first | k_is | rfl)
    (case zz_l4 => first | k_is | rfl)
    (case zz_c4 => first | k_is | rfl)
    (case zz_k4 => first | k_is | rfl)
    (case zz_a5 => first | k_is | rfl)
    (case zz_l5 => first | k_is | rfl)
    (case zz_c5 => first | k_is | rfl)
    (case zz_k5 => first | k_is | rfl)
    (case zz_a6 => first | k_is | rfl)
    (case zz_l6 => first | k_is | rfl)
    (case zz_c6 => first | k_is | rfl)
    (case zz_k6 => first | k_is | rfl)
    (case zz_a7 => first | k_is | rfl)
    (case zz_l7 => first | k_is | rfl)
    (case zz_c7 => first | k_is | rfl)
    (case zz_k7 => first | k_is | rfl)
    (case zz_a8 => first | k_is | rfl)
    (case zz_l8 => first | k_is | rfl)
    (case zz_c8 => first | k_is | rfl)
    (case zz_k8 => first | k_is | rfl)
    (case zz_a9 => first | k_is | rfl)
    (case zz_l9 => first | k_is | rfl)
    (case zz_c9 => first | k_is | rfl)
    (case zz_k9 => first | k_is | rfl)
    (case zz_a10 => first | k_is | rfl)
    (case zz_l10 => first | k_is | rfl)
    (case zz_c10 => first | k_is | rfl)
    (case zz_k10 => first | k_is | rfl)
    (case zz_a11 => first | k_is | rfl)
    (case zz_l11 => first | k_is | rfl)
    (case zz_c11 => first | k_is | rfl)
    (case zz_k11 => first | k_is | rfl)
    (case zz_a12 => first | k_is | rfl)
    (case zz_l12 => first | k_is | rfl)
    (case zz_c12 => first | k_is | rfl)
    (case zz_k12 => first | k_is | rfl)
    (case zz_a13 => first | k_is | rfl)
    (case zz_l13 => first | k_is | rfl)
    (case zz_c13 => first | k_is | rfl)
    (case zz_k13 => first | k_is | rfl)
    (case zz_a14 => first | k_is | rfl)
    (case zz_l14 => first | k_is | rfl)
    (case zz_c14 => first | k_is | rfl)
    (case zz_k14 => first | k_is | rfl)
    (case zz_a15 => first | k_is | rfl)
    (case zz_l15 => first | k_is | rfl)
    (case zz_c15 => first | k_is | rfl)
    (case zz_k15 => first | k_is | rfl)
    (case zz_a16 => first | k_is | rfl)
    (case zz_l16 => first | k_is | rfl)
    (case zz_c16 => first | k_is | rfl)
    (case zz_k16 => first | k_is | rfl)
    (case zz_a17 => first | k_is | rfl)
    (case zz_l17 => first | k_is | rfl)
    (case zz_c17 => first | k_is | rfl)
    (case zz_k17 => first | k_is | rfl)
    (case zz_a18 => first | k_is | rfl)
    (case zz_l18 => first | k_is | rfl)
    (case zz_c18 => first | k_is | rfl)
    (case zz_k18 => first | k_is | rfl)
    (case zz_a19 => first | k_is | rfl)
    (case zz_l19 => first | k_is | rfl)
    (case zz_c19 => first | k_is | rfl)
    (case zz_k19 => first | k_is | rfl)
    (case zz_a20 => first | k_is | rfl)
    (case zz_l20 => first | k_is | rfl)
    (case zz_c20 => first | k_is | rfl)
    (case zz_k20 => first | k_is | rfl)
    (case zz_a21 => first | k_is | rfl)
    (case zz_l21 => first | k_is | rfl)
    (case zz_c21 => first | k_is | rfl)
    (case zz_k21 => first | k_is | rfl)
    (case zz_a22 => first | k_is | rfl)
    (case zz_l22 => first | k_is | rfl)
    (case zz_c22 => first | k_is | rfl)
    (case zz_k22 => first | k_is | rfl)
    (case zz_a23 => first | k_is | rfl)
    (case zz_l23 => first | k_is | rfl)
    (case zz_c23 => first | k_is | rfl)
    (case zz_k23 => first | k_is | rfl)
    (case zz_a24 => first | k_is | rfl)
    (case zz_l24 => first | k_is | rfl)
    (case zz_c24 => first | k_is | rfl)
    (case zz_k24 => first | k_is | rfl)
    (case zz_a25 => first | k_is | rfl)
    (case zz_l25 => first | k_is | rfl)
    (case zz_c25 => first | k_is | rfl)
    (case zz_k25 => first | k_is | rfl)
    (case zz_a26 => first | k_is | rfl)
    (case zz_i26 => first | k_is | rfl)
    (case zz_x26 => first | k_is | rfl)
    (case zz_l26 => first | k_is | rfl)
    (case zz_c26 => first | k_is | rfl)
    (case zz_k26 => first | k_is | rfl)
    (case zz_a27 => first | k_is | rfl)
    (case zz_i27 => first | k_is | rfl)
    (case zz_l27 => first | k_is | rfl)
    (case zz_c27 => first | k_is | rfl)
    (case zz_k27 => first | k_is | rfl)
    (case zz_a28 => first | k_is | rfl)
    (case zz_i28 => first | k_is | rfl)
    (case zz_x28 => first | k_is | rfl)
    (case zz_l28 => first | k_is | rfl)
    (case zz_c28 => first | k_is | rfl)
    (case zz_k28 => first | k_is | rfl)
    (case zz_a29 => first | k_is | rfl)
    (case zz_pg29 => first | k_is | rfl)
    (case zz_pt29 => first | k_is | rfl)
    (case zz_pr29 => first | k_is | rfl)
    (case zz_l29 => first | k_is | rfl)
    (case zz_c29 => first | k_is | rfl)
    (case zz_k29 => first | k_is | rfl)
    (case zz_a30 => first | k_is | rfl)
    (case zz_pg30 => first | k_is | rfl)
    (case zz_pt30 => first | k_is | rfl)
    (case zz_pr30 => first | k_is | rfl)
    (case zz_l30 => first | k_is | rfl)
    (case zz_c30 => first | k_is | rfl)
    (case zz_k30 => first | k_is | rfl)
    (case zz_a31 => first | k_is | rfl)
    (case zz_i31 => first | k_is | rfl)
    (case zz_l31 => first | k_is | rfl)
    (case zz_c31 => first | k_is | rfl)
    (case zz_k31 => first | k_is | rfl)
    (case zz_a32 => first | k_is | rfl)
    (case zz_i32 => first | k_is | rfl)
    (case zz_l32 => first | k_is | rfl)
    (case zz_c32 => first | k_is | rfl)
    (case zz_k32 => first | k_is | rfl)
    (case zz_a33 => first | k_is | rfl)
    (case zz_i33 => first | k_is | rfl)
    (case zz_l33 => first | k_is | rfl)
    (case zz_c33 => first | k_is | rfl)
    (case zz_k33 => first | k_is | rfl)
    (case zz_a34 => first | k_is | rfl)
    (case zz_i34 => first | k_is | rfl)
    (case zz_l34 => first | k_is | rfl)
    (case zz_c34 => first | k_is | rfl)
    (case zz_k34 => first | k_is | rfl)
    (case zz_a35 => first | k_is | rfl)
    (case zz_i35 => first | k_is | rfl)
    (case zz_l35 => first | k_is | rfl)
    (case zz_c35 => first | k_is | rfl)
    (case zz_k35 => first | k_is | rfl)
    (case zz_a36 => first | k_is | rfl)
    (case zz_i36 => first | k_is | rfl)
    (case zz_l36 => first | k_is | rfl)
    (case zz_c36 => first | k_is | rfl)
    (case zz_k36 => first | k_is | rfl)
    (case zz_a37 => first | k_is | rfl)
    (case zz_i37 => first | k_is | rfl)
    (case zz_l37 => first | k_is | rfl)
    (case zz_c37 => first | k_is | rfl)
    (case zz_k37 => first | k_is | rfl)
    (case zz_a38 => first | k_is | rfl)
    (case zz_i38 => first | k_is | rfl)
    (case zz_l38 => first | k_is | rfl)
    (case zz_c38 => first | k_is | rfl)
    (case zz_k38 => first | k_is | rfl)
    (case zz_a39 => first | k_is | rfl)
    (case zz_i39 => first | k_is | rfl)
    (case zz_l39 => first | k_is | rfl)
    (case zz_c39 => first | k_is | rfl)
    (case zz_k39 => first | k_is | rfl)
    (case zz_a40 => first | k_is | rfl)
    (case zz_i40 => first | k_is | rfl)
    (case zz_l40 => first | k_is | rfl)
    (case zz_c40 => first | k_is | rfl)
    (case zz_k40 => first | k_is | rfl)
    (case zz_a41 => first | k_is | rfl)
    (case zz_i41 => first | k_is | rfl)
    (case zz_l41 => first | k_is | rfl)
    (case zz_c41 => first | k_is | rfl)
    (case zz_k41 => first | k_is | rfl)
    (case zz_a42 => first | k_is | rfl)
    (case zz_i42 => first | k_is | rfl)
    (case zz_l42 => first | k_is | rfl)
    (case zz_c42 => first | k_is | rfl)
    (case zz_k42 => first | k_is | rfl)
    (case zz_a43 => first | k_is | rfl)
    (case zz_l43 => first | k_is | rfl)
    (case zz_c43 => first | k_is | rfl)
    (case zz_k43 => first | k_is | rfl)
    (case zz_t43 => first | k_is | rfl)
    (case zz_a44 => first | k_is | rfl)
    (case zz_l44 => first | k_is | rfl)
    (case zz_c44 => first | k_is | rfl)
    (case zz_k44 => first | k_is | rfl)
    (case zz_t44 => first | k_is | rfl)
    (case zz_a45 => first | k_is | rfl)
    (case zz_l45 => first | k_is | rfl)
    (case zz_c45 => first | k_is | rfl)
    (case zz_k45 => first | k_is | rfl)
    (case zz_t45 => first | k_is | rfl)
    (case zz_z0 => first | k_is | rfl)
    (case zz_z1 => first | k_is | rfl)
    (case zz_z2 => first | k_is | rfl)
    (case zz_z3 => first | k_is | rfl)
    (case zz_z4 => first | k_is | rfl)
    (case zz_z5 => first | k_is | rfl)
    (case zz_z6 => first | k_is | rfl)
    (case zz_z7 => first | k_is | rfl)
    (case zz_z8 => first | k_is | rfl)
    (case zz_z9 => first | k_is | rfl)
    (case zz_z10 => first | k_is | rfl)
    (case zz_z11 => first | k_is | rfl)
    (case zz_z12 => first | k_is | rfl)
    (case zz_z13 => first | k_is | rfl)
    (case zz_z14 => first | k_is | rfl)
    (case zz_z15 => first | k_is | rfl)

