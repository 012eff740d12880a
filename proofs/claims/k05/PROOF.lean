import PyProof.Rows.All
import Wide.All
import OpenK.AllK
import Wide.FinOn
import HandS.ForMost
import HandS.OwnIter
import HandS.IterNext
import HandS.IterVal
import HandS.Call
import HandS.ExcOwn
import HandS.Exc
import HandS.Star
import HandS.MakeKw
import PyProof.Rows.CallKw2
import HandS.Dict
import HandS.Iter
import HandS.ExcInit
import HandS.ExcCtx
import HandS.HotCalls
import HandS.Words
import HandS.WordsExc
import HandS.ClsMeth
import PyProof.TupleIter
import HandS.ExcIs
import HandS.ExcField
import HandS.IsInst
import KE.KIsAll
import KE.KTryMore
import HandS.ForExc
import HandS.TupAny
import HandS.Walk
import HandS.NoneIn
import HandS.Evl
import HandS.FStr
import HandS.Text
import HandS.StrMore
import HandS.More
import HandS.Deep
import HandS.Codes
import PySem.Challenge.RW_laidforall_k05_grammars
set_option Elab.async false
set_option linter.all false
set_option maxRecDepth 100000
set_option maxHeartbeats 2000000
namespace RO
open PySem PySem.Spec PyProof.Rows L2 ItX
/-! ### a def whose promise knows how large the heap was -/
structure FnN (P : Program) (w : World) (K : PySem.W.Frag) (mg : Str → Option Value) (base : Heap) (CX : CXT) (k : Nat) (f : Addr) (fd : FuncData) (ps : List Str) (sp : Nat → Sp) : Prop where
  len : ∀ n vs H Q E, sp n vs H Q E → vs.length = ps.length
  run : ∀ (A : Around) (outer : List Env) (s : Shared) (H : Hp) (args : Args) (us : List Value) (vs : List V) (Q : VK) (E : XK), Room k A → Env0 P w K mg base A outer s H → BindsTo s fd args (ps.zip us) → Vals vs us → sp s.heap.objs.size vs H Q E →
    codeAny (model P w) A (.call (.ref f) args) (CR CX outer P w H s Q E) s
theorem fn_ofN {CX : CXT} {P : Program} {w : World} {K : PySem.W.Frag} {mg : Str → Option Value} {base : Heap} {k : Nat} {f : Addr} {name qual : Str} {params : Arguments} {body : List Stmt} {scope : Scope} {dV kV doc pm cdv ct oc : Value} {an od : Option Addr}
    {osl : Array (Option Value)} {N ps : List Str} {sp : Nat → Sp} (lk : K.lookup f = some ⟨oc, od, .func (PySem.W.fnOf name qual params body scope dV kV doc pm an cdv ct), osl⟩) (hcd : PySem.W.codeIn K cdv qual = true) (S : FnScope N ps scope)
    (len : ∀ n vs H Q E, sp n vs H Q E → vs.length = ps.length)
    (hbody : ∀ (A : Around) (outer : List Env) (s : Shared) (H : Hp) (vs : List V) (Q : VK) (E : XK), Room k (A.deeper (envOfC qual scope s.heap.objs.size f cdv)) → sp s.heap.objs.size vs H Q E →
      ∃ t, PSs (cxOf CX P w K mg base N qual scope f cdv A outer s H E) body t ∧ t { nx := fun _ H' => Q .non H', rt := Q } (start N vs) H) :
    FnN P w K mg base CX (k + 1) f (PySem.W.fnOf name qual params body scope dV kV doc pm an cdv ct) ps sp := by
  refine ⟨len, fun A outer s H args us vs Q E hr e0 hb r hsp => ?_⟩
  have hl := len _ _ _ _ _ hsp
  have KX : K.In s.heap := e0.mod.kin.keeps fun b o e => (e0.bs b o e).1
  have lim : s.heap.NoLimit := e0.mod.nolimit.keeps fun b o e => (e0.bs b o e).1
  have hkind : ∀ y ∈ ps.zip us, scope.names.lookup y.1 = some .local ∨ (scope.names.lookup y.1 = some .cell ∧ ((cellsFrom (s.heap.objs.size + 1) scope.names []).lookup y.1).isSome = true) := fun ⟨n, v⟩ hy => by
    rcases S.par n (List.of_mem_zip hy).1 with q | q
    · exact .inl q
    · exact .inr ⟨q, PySem.W.cellsFrom_some _ _ _ (.inl q)⟩
  refine codeAny_call_function hr.depth (KX _ _ lk) rfl S.co S.gen rfl (PySem.W.codeRec_of KX hcd) (hb _ _ _ _ ?_)
  refine wpAny_newFunctionEnv_cells S.kind hkind fun env he s1 x => ?_
  subst he
  refine ⟨lim.keeps x.toInCall.keep, codeAny_func ?_⟩
  obtain ⟨t, ht, hq⟩ := hbody A outer s H vs Q E (hr.deeper _) hsp
  have I : Inv (cxOf CX P w K mg base N qual scope f cdv A outer s H E) [] (start N vs) H s1 := inv_start S hr.hd e0 hl r x
  refine wpAny_mono (ht.run [] s1 (start N vs) H _ I hq) (fun fl s' hs => ?_) fun e s' hs => hs
  have fin : ∀ {σ' : L2.St} {H' : Hp} {v : V} {u : Value}, Inv (cxOf CX P w K mg base N qual scope f cdv A outer s H E) [] σ' H' s' → RelV v u → Q v H' → CE outer P w H s Q u s' :=
    fun {σ' H' v u} J rv q => ⟨v, H', J.os, J.bare, J.base, J.hok, rv, q⟩
  cases fl with
  | ret u =>
    obtain ⟨v, σ', H', J, rv, q⟩ := hs
    exact fin J rv q
  | next =>
    obtain ⟨σ', H', J, q⟩ := hs
    exact fin (v := V.non) (u := Value.none) J rfl q
  | brk =>
    obtain ⟨_, _, _, q⟩ := hs
    exact False.elim q
  | cont =>
    obtain ⟨_, _, _, q⟩ := hs
    exact False.elim q
section
variable {P : Program} {w : World} {K : PySem.W.Frag} {mg : Str → Option Value} {base : Heap}
theorem fun_okN {x qual : Str} {st : Stmt} {f : Addr} {fd : FuncData} {N ps : List Str} {k : Nat} {sp : Nat → Sp} (F : Fun K x qual st f fd) (S : FnScope N ps (defScope st)) (len : ∀ n vs H Q E, sp n vs H Q E → vs.length = ps.length)
    (hbody : ∀ (cdv : Value) (A : Around) (outer : List Env) (s : Shared) (H : Hp) (vs : List V) (Q : VK) (E : XK), Room k (A.deeper (envOfC qual (defScope st) s.heap.objs.size f cdv)) → sp s.heap.objs.size vs H Q E →
      ∃ t, PSs (cxOf CX0 P w K mg base N qual (defScope st) f cdv A outer s H E).nox (defBody st) t ∧ t { nx := fun _ H' => Q .non H', rt := Q } (start N vs) H) : FnN P w K mg base CX0 (k + 1) f fd ps sp := by
  obtain ⟨oc, od, kV, doc, pm, an, cdv, ct, osl, rfl, lk, hcd⟩ := F.ex
  refine fn_ofN lk hcd S len fun A outer s H vs Q E hr hsp => ?_
  obtain ⟨t, h, q⟩ := hbody cdv A outer s H vs Q E hr hsp
  exact ⟨t, h.nox, q⟩
end
/-- __iter__ hands back a new iterator over the list in a field -/
def spIt (C : Addr) (fld : Str) (n : Nat) : Sp := fun vs H Q _ => ∃ (p dx l : Addr) (fs : List (Str × V)), vs = [.ref p] ∧ H p = some (.ins C dx fs) ∧ fs.lookup fld = some (.ref l) ∧ (∃ zs, H l = some (.lst zs)) ∧ ∀ it, H it = none → n ≤ it → Q (.ref it) (upd H it (ItO l it 0))
/-- what a class with such an __iter__ has -/
structure ItrC (X : Cx) (C fi : Addr) (fdI : FuncData) (fld : Str) (k : Nat) : Prop where
  it : PySem.W.findIn X.K (.ref C) "__iter__" = some (some (.ref fi))
  itF : PySem.W.isFn X.K (.ref fi) = true
  fn : FnN X.prog X.w X.K X.mg X.base CX0 k fi fdI ["self"] (spIt C fld)
  bi : Binds X.K fdI ["self"] []
section
variable {X : Cx} {pins : List (Addr × Obj)} {σ : L2.St} {H : Hp} {s : Shared} {A1 : Around} {C fi fl p dx l : Addr} {fdI fdL : FuncData} {fld : Str} {k : Nat} {fs : List (Str × V)} {zs : List V}
theorem env_sub (I : Inv X pins σ H s) (sb : Sub X k A1) : Env0 X.prog X.w X.K X.mg X.base A1 X.stack s H := by
  have e := I.env0
  exact ⟨by rw [sb.fr]; exact e.frames, e.mod, e.bs, e.bsz, e.funs, e.frf, e.hok, e.bare⟩
/-- iter(o) -/
theorem own_iter {Q : Value → Shared → Prop} (sb : Sub X k A1) (c : ItrC X C fi fdI fld k) (I : Inv X pins σ H s) (hp : H p = some (.ins C dx fs)) (hf : fs.lookup fld = some (.ref l)) (hl : H l = some (.lst zs))
    (h : ∀ it s', H it = none → s.heap.objs.size ≤ it → s'.heap.IsListIter it l 0 → s'.heap.get? it = some (GNX.itObj l 0) → Inv X pins σ H s' → Q (.ref it) s') : wpAny (model X.prog X.w) A1 (pyIter (.ref p)) Q X.xe s := by
  obtain ⟨mA, J, _⟩ := ins_get I.hok hp
  obtain ⟨od, J, _⟩ := J.look
  obtain ⟨m0, hF⟩ := I.fr
  refine PySem.W.owit_iter hF I.ok.mod.kin J c.it c.itF ?_
  have hsp : spIt C fld s.heap.objs.size [.ref p] H (fun v H' => ∃ it, v = .ref it ∧ H it = none ∧ s.heap.objs.size ≤ it ∧ H' = upd H it (ItO l it 0)) E0 := ⟨p, dx, l, fs, rfl, hp, hf, ⟨zs, hl⟩, fun it h1 h2 => ⟨it, rfl, h1, h2, rfl⟩⟩
  have r2 : Vals [V.ref p] [Value.ref p] := .cons rfl .nil
  refine wpAny_call (codeAny_mono (c.fn.run A1 X.stack s H ⟨[.ref p], []⟩ [.ref p] [.ref p] _ E0 sb.room (env_sub I sb) (by
    have := c.bi s [.ref p] I.kIn rfl
    simpa using this) r2 hsp) fun r s' hq => ?_)
  cases r with
  | error e => exact absurd hq (fun z => z.elim)
  | ok fl =>
    cases fl with
    | next => exact False.elim hq
    | brk => exact False.elim hq
    | cont => exact False.elim hq
    | ret u =>
      obtain ⟨v, H', I', rv, it, rfl, hn, hsz, rfl⟩ := I.after hq
      cases rv
      have eo := itO_get I' upd_same
      have I2 := inv_drop I' (show upd H it (ItO l it 0) it = some (.ext _) from upd_same)
      rw [dropH_upd hn] at I2
      have hT : s'.TypeIs (.ref it) "list_iterator" := ⟨_, eo, rfl⟩
      unfold PySem.W.OwitIt
      exact wpAny_specialOf (name := Str.ofString "__next__") hT slot_listiter_next.lookup (h it s' hn hsz ⟨_, eo, rfl, rfl⟩ eo I2)
/-- len(o) by an own __len__ that only tells -/
theorem own_len {Q : Value → Shared → Prop} {E' : Value → Shared → Prop} {sp : Sp} {m : Nat} (sb : Sub X k A1.in1) (hlen : PySem.W.findIn X.K (.ref C) "__len__" = some (some (.ref fl))) (hf : PySem.W.typeIn X.K (.ref fl) = some (.type "function")) (F : FnOk X.prog X.w X.K X.mg X.base CX0 k fl fdL ["self"] sp) (b : Binds X.K fdL ["self"] [])
    (I : Inv X pins σ H s) (hp : H p = some (.ins C dx fs)) (hm : m ≤ sizeLine) (hsp : sp [.ref p] H (fun v H' => v = .int (m : Int) ∧ H' = H) E0)
    (h : ∀ t s', Inv X pins σ H s' → Q (.int (m : Int) t) s') : wpAny (model X.prog X.w) A1 (call (.builtin "len") [.ref p]) Q E' s := by
  obtain ⟨mA, J, _⟩ := ins_get I.hok hp
  obtain ⟨od, J, _⟩ := J.look
  refine Calls.call_function_entry kind_len plain_len entry_len (args_len1 _) ?_
  unfold Builtin.«len»
  refine wpAny_bind (m := oneArg "len" _) (wpAny_pure ?_)
  have r2 : Vals [V.ref p] [Value.ref p] := .cons rfl .nil
  refine wpAny_bind (m := callSpecial? (.ref p) (PySem.Str.ofString "__len__")) (PySem.W.special_fn I.kIn J hlen hf ?_)
  refine wpAny_call (codeAny_mono (F.run A1.in1 X.stack s H ⟨[.ref p], []⟩ [.ref p] [.ref p] _ E0 sb.room (env_sub I sb) (by
    have := b s [.ref p] I.kIn rfl
    simpa using this) r2 hsp) fun r s' hq => ?_)
  cases r with
  | error e => exact absurd hq (fun z => z.elim)
  | ok fl =>
    cases fl with
    | next => exact False.elim hq
    | brk => exact False.elim hq
    | cont => exact False.elim hq
    | ret u =>
      obtain ⟨v, H', I', rv, rfl, rfl⟩ := I.after hq
      obtain ⟨t, rfl⟩ := rv
      have hs : sizeLine = 16777216 := sizeLine_eq
      refine wpAny_bind (wpAny_holding (wpAny_pure ?_))
      refine wpAny_bind (wpAny_letGo ?_)
      show wpAny _ _ (if ((m : Nat) : Int) < 0 then _ else _) _ _ _
      rw [if_neg (by omega)]
      show wpAny _ _ (if ((m : Nat) : Int) ≥ 2 ^ 63 then _ else _) _ _ _
      rw [if_neg (by omega)]
      exact wpAny_bind (wpAny_mkInt (wpAny_pure ⟨_, rfl, h _ _ (I'.tok _)⟩))
end
section
variable {X : Cx} {C fi fl : Addr} {fdI fdL : FuncData} {fld : Str} {k : Nat}
/-! ### for x in o -/
def iOwnL (C : Addr) (fld : Str) (K : PySem.W.Frag) (te : TE) : TI := fun σ H R => te σ H fun v H1 => ∃ (p dx l : Addr) (fs : List (Str × V)) (zs : List V), v = .ref p ∧ H1 p = some (.ins C dx fs) ∧ fs.lookup fld = some (.ref l) ∧ H1 l = some (.lst zs) ∧ R (Itl K l) H1
theorem pi_ownL {tg e : Expr} {te : TE} (c : ItrC X C fi fdI fld k) (hr : Room k X.A) (he : PE X e te) : PI X tg e (iOwnL C fld X.K te) := by
  refine ⟨fun pins s σ H R I h => ?_⟩
  refine thn (he.run pins s σ H _ I h) fun v s1 ⟨y, H1, I1, ry, p, dx, l, fs, zs, ey, hp, hf, hl, q⟩ => ?_
  subst ey
  cases ry
  refine own_iter (⟨hr, rfl⟩ : Sub X k X.A) c I1 hp hf hl fun it s' hn hsz hli eo I' => ?_
  exact ⟨it, [it], _, _, H1, rfl, I', turn_list l it, hli, fun b hb => by rw [List.mem_singleton.mp hb]; exact I1.fpOk hsz hn, q⟩
/-! ### len(o) -/
theorem call_lenOwn {sp : Sp} (hlen : PySem.W.findIn X.K (.ref C) "__len__" = some (some (.ref fl))) (hf : PySem.W.typeIn X.K (.ref fl) = some (.type "function")) (F : FnOk X.prog X.w X.K X.mg X.base CX0 k fl fdL ["self"] sp) (b : Binds X.K fdL ["self"] []) (hr : Room (k + 1) X.A) :
    CallR X (.builtin "len") (fun xs H Q => ∃ (p dx : Addr) (fs : List (Str × V)) (m : Nat), xs = [.ref p] ∧ H p = some (.ins C dx fs) ∧ m ≤ sizeLine ∧ sp [.ref p] H (fun v H' => v = .int (m : Int) ∧ H' = H) E0 ∧ Q (.int (m : Int)) H) := by
  intro pins s σ H xs us Q I r h
  obtain ⟨p, dx, fs, m, rfl, hp, hm, hsp, q⟩ := h
  obtain ⟨u, rfl, ru⟩ := vals1 r
  obtain rfl : u = Value.ref p := ru
  exact own_len (Sub.in1 (⟨hr, rfl⟩ : Sub X (k + 1) X.A)) hlen hf F b I hp hm hsp fun t s' I' => ⟨.int (m : Int), H, I', ⟨_, rfl⟩, q⟩
end
end RO

set_option maxRecDepth 100000
set_option maxHeartbeats 2000000
namespace RO
open PySem PySem.Spec PyProof.Rows L2 ItX
/-! ### list(o) -/
/-- what a class with an own __iter__ and __len__ has -/
structure LenC (X : Cx) (C fl : Addr) (fdL : FuncData) (sp : Sp) (k : Nat) : Prop where
  at_ : PySem.W.findIn X.K (.ref C) "__len__" = some (some (.ref fl))
  ty : PySem.W.typeIn X.K (.ref fl) = some (.type "function")
  fn : FnOk X.prog X.w X.K X.mg X.base CX0 k fl fdL ["self"] sp
  bi : Binds X.K fdL ["self"] []
section
variable {X : Cx} {pins : List (Addr × Obj)} {σ : L2.St} {H : Hp} {s : Shared} {A1 : Around} {C fi fl p dx l q it : Addr} {fdI fdL : FuncData} {fld : Str} {k : Nat} {fs : List (Str × V)} {zs : List V}
theorem ext_loop {Rs : Result → Shared → Prop} (hh : A1.in1.handled = none) (nql : l ≠ q) (hl : H l = some (.lst zs)) (hsz : zs.length < sizeLine) (hq0 : H q = some (.lst []))
    (hdone : ∀ s, Inv X pins σ (upd H q (.lst zs)) s → Rs (.ok (.ret .none)) s) :
    ∀ (n i : Nat) (s : Shared), n + i = zs.length → Inv X pins σ (upd H q (.lst (zs.take i))) s → s.heap.IsListIter it l i → FpOk X pins H it →
      codeAny (model X.prog X.w) A1 (.builtin "list.extend.loop" ⟨[.ref q, .ref it, .none], []⟩) Rs s := by
  intro n
  induction n with
  | zero =>
    intro i s hi I st fp
    refine codeAny_builtin PySem.F.entry_extend_loop ?_
    rw [Around.under_plainId PySem.F.plain_extend_loop _]
    show wpAny _ A1.in1 (pyNext (.ref it) >>= _) _ _ s
    have hl' : upd H q (.lst (zs.take i)) l = some (.lst zs) := by rw [upd_ne nql]; exact hl
    obtain ⟨its, rv, pl, _⟩ := I.list (SqL.of (K := X.K) hl')
    have hlen := rv.length
    obtain ⟨f0, f1, f2, f3, f4, f5⟩ := fp
    have niq : it ≠ q := fun e => by rw [e, hq0] at f0; cases f0
    have e1 : zs.take i = zs := List.take_of_length_le (by omega)
    refine wpAny_bind (wpAny_pyNext_list_end hh st pl.isList (by simp; omega) fun h' eb => ?_)
    rw [e1] at I
    have I' : Inv X pins σ (upd H q (.lst zs)) { s with heap := h' } := I.turned (t' := s.toks) (fun b o hb e => eb b o hb e) (by rw [upd_ne niq]; exact f0) f1 f3 f4 f5
    exact wpAny_pure (hdone _ I')
  | succ n ih =>
    intro i s hi I st fp
    refine codeAny_builtin PySem.F.entry_extend_loop ?_
    rw [Around.under_plainId PySem.F.plain_extend_loop _]
    show wpAny _ A1.in1 (pyNext (.ref it) >>= _) _ _ s
    have hl' : upd H q (.lst (zs.take i)) l = some (.lst zs) := by rw [upd_ne nql]; exact hl
    obtain ⟨its, rv, pl, _⟩ := I.list (SqL.of (K := X.K) hl')
    have hlen := rv.length
    obtain ⟨f0, f1, f2, f3, f4, f5⟩ := id fp
    have niq : it ≠ q := fun e => by rw [e, hq0] at f0; cases f0
    have hv : zs[i]? = some (zs[i]'(by omega)) := List.getElem?_eq_getElem _
    obtain ⟨u, hu, ru⟩ := rv.get hv
    refine wpAny_bind (wpAny_pyNext_list_item st pl.isList (x := u) (by simpa using hu) fun h' st' sb => ?_)
    have I1 : Inv X pins σ (upd H q (.lst (zs.take i))) { s with heap := h' } := I.turned (t' := s.toks) (fun b o hb e => (sb.2 b hb).trans e) (by rw [upd_ne niq]; exact f0) f1 f3 f4 f5
    show wpAny _ A1.in1 (updateSeq q (·.push u) >>= _) _ _ _
    obtain ⟨z, its2, kk, r2, hl2, e2⟩ := I1.lstM upd_same
    refine wpAny_bind (wpAny_updateSeq e2 rfl (wpAny_pure ⟨plainId_quiet PySem.F.plain_extend_loop _, ?_⟩) (by rw [List.size_toArray, ← hl2, List.length_take]; omega) (by show (its2.toArray.push u).size ≤ sizeLine + 1; rw [Array.size_push, List.size_toArray, ← hl2, List.length_take]; omega))
    have e3 : zs.take (i + 1) = zs.take i ++ [zs[i]'(by omega)] := by rw [List.take_add_one, hv]; rfl
    have I2 := I1.lset (f := (·.push u)) (its' := its2 ++ [u]) (ys := zs.take (i + 1)) (t' := s.toks) upd_same e2 (by simp) (by rw [e3]; exact r2.append (.cons ru .nil)) (by rw [List.length_take]; omega)
    rw [upd_upd] at I2
    refine ih (i + 1) _ (by omega) I2 (st'.at fun o e => ?_) fp
    exact (Heap.get?_update_other _ _ (Ne.symm niq)).trans e
theorem own_extendL {Rs : Result → Shared → Prop} {sp : Sp} {m : Nat} (sb : Sub X (k + 1) A1.in1) (hh : A1.in1.handled = none) (ci : ItrC X C fi fdI fld k) (cl : LenC X C fl fdL sp k) (I : Inv X pins σ H s) (hp : H p = some (.ins C dx fs)) (hf : fs.lookup fld = some (.ref l)) (hl : H l = some (.lst zs)) (hsz : zs.length < sizeLine)
    (hm : m ≤ sizeLine) (hsp : sp [.ref p] H (fun v H' => v = .int (m : Int) ∧ H' = H) E0) (hq : H q = some (.lst [])) (nql : l ≠ q) (hdone : ∀ s, Inv X pins σ (upd H q (.lst zs)) s → Rs (.ok (.ret .none)) s) (herr : ∀ e s, X.xe e s → Rs (.error e) s) :
    wpAny (model X.prog X.w) A1.in1 (Builtin.List.listExtendWith (.ref q) (.ref p) .none)
      (fun fin s' => match fin with | .done f => Rs (.ok f) s' | .again c' => c'.quiet = true ∧ codeAny (model X.prog X.w) A1 c' Rs s') (fun e s' => Rs (.error e) s') s := by
  have hne : q ≠ p := ne_of hq hp (fun z => nomatch z)
  obtain ⟨mA, J, _⟩ := ins_get I.hok hp
  obtain ⟨od, J, _⟩ := J.look
  unfold Builtin.List.listExtendWith
  refine wpAny_bind (J.type.here ?_)
  have h1 : Builtin.List.listSameRef (.ref q) (.ref p) = false := by simp [Builtin.List.listSameRef, hne]
  have h2 : (Value.ref C == Value.type "list") = false := rfl
  have h3 : (Value.ref C == Value.type "tuple") = false := rfl
  simp only [h1, h2, h3, Bool.or_false, Bool.false_eq_true, if_false]
  refine wpAny_bind (wpAny_mono (own_iter (Q := fun v s' => ∃ it, v = .ref it ∧ H it = none ∧ s.heap.objs.size ≤ it ∧ s'.heap.IsListIter it l 0 ∧ s'.heap.get? it = some (GNX.itObj l 0) ∧ Inv X pins σ H s') (sb.mono (Nat.le_succ k)) ci I hp hf hl fun it s' a b c e d => ⟨it, rfl, a, b, c, e, d⟩) (fun v s' hv => ?_) fun e s' he => herr e s' he)
  obtain ⟨it, rfl, hn, hge, st, eo, I'⟩ := hv
  have fp : FpOk X pins H it := I.fpOk hge hn
  have niq : it ≠ q := fun e => by rw [e, hq] at hn; cases hn
  have hint : wpAny (model X.prog X.w) A1.in1 (Builtin.List.listLengthHint (.ref p)) (fun b s2 => Inv X pins σ H s2 ∧ s2.heap.IsListIter it l 0) (fun e s' => Rs (.error e) s') s' := by
    obtain ⟨mA', J', _⟩ := ins_get I'.hok hp
    obtain ⟨od', J', _⟩ := J'.look
    have IP : Inv X ((it, GNX.itObj l 0) :: pins) σ H s' := I'.pins_of fun r hr => by
      rcases List.mem_cons.mp hr with e | hr
      · rw [e]
        exact ⟨eo, hn, fp.2.1, fp.2.2.1, fun v z => by cases z⟩
      · exact I'.pin r (List.mem_append_right _ hr)
    unfold Builtin.List.listLengthHint
    refine wpAny_bind (wpAny_bind (J'.type.here ((PySem.W.looks_findIn I'.kIn cl.at_).here ?_)))
    refine PySem.W.KFB.if_not rfl ?_
    refine PySem.W.KFB.if_so rfl ?_
    refine wpAny_bind (wpAny_rule ?_)
    refine wpAny_bind (wpAny_attempt ?_)
    refine wpAny_mono (own_len (Q := fun v s2 => ∃ t, v = .int (m : Int) t ∧ Inv X ((it, GNX.itObj l 0) :: pins) σ H s2) (E' := fun _ _ => False) (Sub.in1 sb) cl.at_ cl.ty cl.fn cl.bi IP hp hm hsp fun t s2 h => ⟨t, rfl, h⟩) (fun v s2 hv => ?_) (fun e s2 he => he.elim)
    obtain ⟨t, rfl, I2⟩ := hv
    refine wpAny_bind (m := asInt? (.int (m : Int) t)) (wpAny_pure ?_)
    refine PySem.W.KFB.if_not (notLongL (by rw [Int.toNat_natCast]; exact hm)) ?_
    have eo2 := (I2.pin (it, GNX.itObj l 0) (List.mem_append_right _ List.mem_cons_self)).1
    exact wpAny_pure ⟨I2.pins_of fun r hr => I2.pin r (List.mem_append_right _ (List.mem_cons_of_mem _ hr)), _, eo2, rfl, rfl⟩
  refine wpAny_bind (wpAny_holding (wpAny_mono hint (fun room s2 hr => ?_) fun _ _ z => z))
  obtain ⟨I2, st2⟩ := hr
  have hupd : upd H q (.lst (zs.take 0)) = H := by
    funext b
    by_cases hb : b = q
    · rw [hb, upd_same, hq]; rfl
    · rw [upd_ne hb]
  obtain ⟨z, its, k3, r3, hl3, e3⟩ := I2.lstM hq
  cases r3
  refine wpAny_ite_split (fun _ => ?_) (fun _ => wpAny_pure ⟨plainId_quiet PySem.F.plain_extend_loop _, ext_loop hh nql hl hsz hq hdone zs.length 0 s2 rfl (by rw [hupd]; exact I2) st2 fp⟩)
  refine wpAny_bind (wpAny_rule ?_)
  refine wpAny_bind ?_
  show wpAny _ _ (updateSeq q (·.push .none) >>= fun _ => updateSeq q (·.pop)) _ _ _
  refine wpAny_bind (wpAny_updateSeq e3 rfl ?_)
  have I4 := I2.lset (f := (·.push Value.none)) (its' := [Value.none]) (ys := [.non]) (t' := s2.toks) hq e3 (by simp) (.cons rfl .nil) (by rw [List.length_singleton, sizeLine_eq]; decide)
  obtain ⟨z4, its4, k4, r4, hl4, e4⟩ := I4.lstM upd_same
  obtain ⟨u4, rfl, ru4⟩ := r4.one
  refine wpAny_updateSeq e4 rfl ?_ (by show 1 ≤ sizeLine; rw [sizeLine_eq]; decide) (by show 0 ≤ sizeLine + 1; exact Nat.zero_le _)
  have I5 := I4.lset (f := (·.pop)) (its := [u4]) (its' := []) (ys := []) (t' := s2.toks) upd_same e4 (by rfl) .nil (Nat.zero_le _)
  rw [upd_upd] at I5
  refine wpAny_pure ⟨plainId_quiet PySem.F.plain_extend_loop _, ext_loop hh nql hl hsz hq hdone zs.length 0 _ rfl I5 ?_ fp⟩
  exact (st2.at fun o e => (Heap.get?_update_other _ _ (Ne.symm niq)).trans e).at fun o e => (Heap.get?_update_other _ _ (Ne.symm niq)).trans e
/-- list(o): a new list of what the list in the field holds -/
theorem call_listOwnL {sp : Sp} (ci : ItrC X C fi fdI fld k) (cl : LenC X C fl fdL sp k) (hc : X.calm = true) (hr : Room (k + 3) X.A) :
    CallR X (.type "list") (fun xs H Q => ∃ (p dx l : Addr) (fs : List (Str × V)) (zs : List V) (m : Nat), xs = [.ref p] ∧ H p = some (.ins C dx fs) ∧ fs.lookup fld = some (.ref l) ∧ H l = some (.lst zs) ∧ zs.length ≤ 1000 ∧ m ≤ sizeLine ∧
      (∀ H', Same H H' → sp [.ref p] H' (fun v H'' => v = .int (m : Int) ∧ H'' = H') E0) ∧ ∀ q, H q = none → Q (.ref q) (upd H q (.lst zs))) := by
  intro pins s σ H xs us Q I rv h
  obtain ⟨p, dx, l, fs, zs, m, rfl, hp, hf, hl, hz, hm, hsp, hq⟩ := h
  obtain ⟨u, rfl, ru⟩ := rv.one
  cases ru
  have sb : Sub X (k + 1) X.A.in1.in1 := (Sub.in1 (Sub.in1 (⟨hr, rfl⟩ : Sub X (k + 3) X.A)))
  refine callType_codes (Q₁ := fun obj s₁ => obj = .ref s.heap.objs.size ∧ s₁ = { s with heap := s.heap.push { cls := .type "list", data := .seq #[] } }) PySem.F.called_list (PySem.F.typeCall_list_1 _) PySem.F.entry_list_init
    (code_list_new _ ⟨rfl, rfl⟩) fun obj s₁ h₁ => ?_
  obtain ⟨rfl, rfl⟩ := h₁
  have hS : (s.heap.push { cls := .type "list", data := .seq #[] }).get? s.heap.objs.size = some { cls := .type "list", data := .seq #[] } := Heap.get?_push_size _ rfl
  refine ⟨⟨_, hS, rfl⟩, PySem.F.args_list_init_2 _ _, ?_⟩
  have fr : H s.heap.objs.size = none := I.hok.fresh (Nat.le_refl _)
  have hq' := hq _ fr
  have I1 : Inv X pins σ (upd H s.heap.objs.size (.lst [])) { s with heap := s.heap.push { cls := .type "list", data := .seq #[] } } := I.lnew (its := []) (t' := s.toks) .nil (Nat.zero_le _)
  show wpAny _ _ (do let old ← Builtin.List.listItems (.ref s.heap.objs.size); Builtin.List.listUpdate (.ref s.heap.objs.size) (fun _ => #[]); letGo old.toList.reverse; Builtin.List.listExtendWith (.ref s.heap.objs.size) (.ref p) .none) _ _ _
  refine wpAny_bind ?_
  unfold Builtin.List.listItems
  refine wpAny_bind (wpAny_seqItems hS rfl (wpAny_pure ?_))
  show wpAny _ _ (updateSeq s.heap.objs.size (fun _ => #[]) >>= fun _ => letGo (#[] : Array Value).toList.reverse >>= fun _ => Builtin.List.listExtendWith (.ref s.heap.objs.size) (.ref p) .none) _ _ _
  refine wpAny_bind (wpAny_updateSeq hS rfl ?_)
  have I2 := I1.lset (f := fun _ => #[]) (its := []) (its' := []) (ys := []) (t' := s.toks) upd_same hS rfl .nil (Nat.zero_le _)
  rw [upd_upd] at I2
  refine wpAny_bind (wpAny_letGo ?_)
  have sH : Same H (upd H s.heap.objs.size (.lst [])) := fun b x e => by rw [upd_ne (ne_of_none e fr)]; exact e
  have nql : l ≠ s.heap.objs.size := ne_of_none hl fr
  refine own_extendL (A1 := X.A.in1) (Rs := wants (fun r s₂ => r = .none ∧ EP X pins σ Q (.ref s.heap.objs.size) s₂) X.xe) sb (I.ok.hd hc) ci cl I2 (sH _ _ hp) hf (sH _ _ hl) (Nat.lt_of_le_of_lt hz (by decide)) hm (hsp _ sH) upd_same nql
    (fun s' I' => ⟨rfl, .ref s.heap.objs.size, _, I', rfl, by rw [upd_upd]; exact hq'⟩) (fun e s' he => he)
end
end RO

set_option maxRecDepth 100000
set_option maxHeartbeats 2000000
namespace R6
open PySem PySem.Spec PyProof.Rows L2
/-! ### an own class made inside a try: __init__ may raise -/
section
variable {X : Cx} {CX : CXT} {k : Nat} {f C : Addr} {fd : FuncData} {ps : List Str} {ds : List Value} {dvs : List V} {sp : Sp} {E : L2.St → XK} {x : Str} {p pos : Pos} {e : Expr} {es : List Expr} {t : TA}
theorem run_makeS {pins : List (Addr × Obj)} {σ : L2.St} {H : Hp} {s : Shared} {Q : VK} {us : List Value} {vs : List V} (M : Mk X.K C f) (F : FnOk X.prog X.w X.K X.mg X.base CX k f fd ps sp) (hr : Room (k + 1) X.A) (hb : Binds X.K fd ps ds) (hd : Vals dvs ds)
    (hx : PassesAt CX X σ (E σ)) (I : Inv X pins σ H s) (r : Vals vs us)
    (h : ∀ x dx, H x = none → H dx = none → dx ≠ x → sp (.ref x :: (vs ++ dvs)) (upd (upd H dx (.own x)) x (.ins C dx [])) (fun v H2 => v = .non ∧ Q (.ref x) H2) (E σ)) :
    wpAny (model X.prog X.w) X.A (call (.ref C) us) (EP X pins σ Q) X.xe s := by
  have hq := h (s.heap.objs.size + 1) s.heap.objs.size (I.hok.fresh (Nat.le_succ _)) (I.hok.fresh (Nat.le_refl _)) (Nat.ne_of_lt (Nat.lt_succ_self _))
  have I2 := Inv.made (C := C) I
  have r2 : Vals (V.ref (s.heap.objs.size + 1) :: (vs ++ dvs)) (Value.ref (s.heap.objs.size + 1) :: (us ++ ds)) := .cons rfl (r.append hd)
  have hl : (Value.ref (s.heap.objs.size + 1) :: us ++ ds).length = ps.length := by
    have e := r2.length
    rw [F.len _ _ _ _ hq] at e
    exact e.symm
  refine wpAny_call (make_map (f := f) I.kIn M.makes M.init (beq_iff_eq.mp M.fn) (codeAny_mono (F.run _ X.stack _ _ ⟨Value.ref (s.heap.objs.size + 1) :: us, []⟩ (Value.ref (s.heap.objs.size + 1) :: (us ++ ds)) _ _ (E σ) (hr.make C us [])
    (I2.env0.make C us []) (hb _ (Value.ref (s.heap.objs.size + 1) :: us) I2.kIn hl) r2 hq) fun r s' hq' => ?_))
  cases r with
  | error e => exact hx pins _ _ e s' I2 hq'
  | ok fl =>
    cases fl with
    | ret u =>
      obtain ⟨v, H', I3, rv, ev, q3⟩ := I2.after hq'
      subst ev
      exact ⟨rv, ⟨V.ref (s.heap.objs.size + 1), H', I3, rfl, q3⟩⟩
    | next => exact False.elim hq'
    | brk => exact False.elim hq'
    | cont => exact False.elim hq'
def tMakeS (C : Addr) (sp : Sp) (dvs : List V) (E : L2.St → XK) (t : TA) : TE := fun σ H Q => t σ H fun vs H1 => ∀ x dx, H1 x = none → H1 dx = none → dx ≠ x → sp (.ref x :: (vs ++ dvs)) (upd (upd H1 dx (.own x)) x (.ins C dx [])) (fun v H2 => v = .non ∧ Q (.ref x) H2) (E σ)
theorem pe_makeS (M : Mk X.K C f) (F : FnOk X.prog X.w X.K X.mg X.base CX k f fd ps sp) (hr : Room (k + 1) X.A) (hg : Gl X x) (hm : X.mg x = some (.ref C)) (hb : Binds X.K fd ps ds) (hd : Vals dvs ds) (hx : ∀ σ, PassesAt CX X σ (E σ))
    (ha : PA X (e :: es) t) (hdb : (x == ("__debug__" : Str)) = false := by decide) (he : starEach (e :: es) X.env = (false, eval e X.env) :: starEach es X.env := by rfl) (hpl : (backTo pos (starEach es X.env)).any (·.1) = false := by rfl) :
    PE X (.Call (.Name x p) (e :: es) [] pos) (tMakeS C sp dvs E t) := by
  refine ⟨fun pins s σ H Q I h => ?_⟩
  refine wpAny_Call_Name_kw (ld_glob I hg hm ?_ hdb)
  refine PySem.W.callWith_K (h₀ := X.base) I.ok.mod.kin M.kp (thn (ha.run pos pins s σ H _ I h) fun us s1 ⟨vs, H1, I1, r, q⟩ => ⟨I1.kIn, ?_⟩) he hpl
  exact run_makeS M F hr hb hd (hx σ) I1 r q
end
end R6

set_option maxRecDepth 100000
set_option maxHeartbeats 4000000
/-! several except clauses, each with the same name behind as -/
namespace RT
open PySem PySem.Spec PyProof.Rows L2
/-- what is wanted behind a suite whose name at i is let go -/
def offD (D : Ends) (i : Nat) : Ends := { nx := fun σ H => D.nx (σ.set i none) H, rt := D.rt, bk := fun σ H => D.bk (σ.set i none) H, ct := fun σ H => D.ct (σ.set i none) H }
abbrev Cl : Type := Value × (Addr → Value → Option Addr → TS)
def wAsM (K : PySem.W.Frag) (i : Nat) (W0 : WX) (D : Ends) : List Cl → WX
  | [] => W0
  | k :: r => fun cls d σ H => ∃ b, PySem.W.exmOne K cls k.1 = some b ∧ (b = true → ∀ a, H a = none → k.2 a cls d (offD D i) (σ.set i (some (.ref a))) H) ∧ (b = false → wAsM K i W0 D r cls d σ H)
inductive AsOk (X : Cx) (n : Str) : List ExceptHandler → List Cl → Prop
  | nil : AsOk X n [] []
  | cons {x : Str} {c : Value} {ts : Addr → Value → Option Addr → TS} {b0 : Stmt} {su : List Stmt} {np p' : Pos} {hs : List ExceptHandler} {l : List Cl} (hc : Names X x c)
      (hsu : ∀ (a : Addr) (oe : Obj) (cls : Value) (d : Option Addr) (pn : List (Addr × Obj)), Zc cls d oe → (∃ vs, oe.data = .fields vs) → PSs (X.suite a ((a, oe) :: pn)) (b0 :: su) (ts a cls d))
      (r : AsOk X n hs l) : AsOk X n (.ExceptHandler (some (.Name x np)) (some n) (b0 :: su) p' :: hs) ((c, ts) :: l)
section
variable {X : Cx} {n : Str} {i : Nat} {body : List Stmt} {h0 : ExceptHandler} {hds : List ExceptHandler} {l : List Cl} {pos : Pos} {tb : WX → TS} {W0 : WX}
/-- caught, on the ground -/
structure Got (X : Cx) (pins : List (Addr × Obj)) (σ : L2.St) (H : Hp) (a : Addr) (B : Heap) (sI s3 : Shared) (cls : Value) (d : Option Addr) : Prop where
  inv : Inv X pins σ H sI
  nb : ∀ b o, sI.heap.get? b = some o → b ∉ frs X.stack → B.get? b = some o
  up : sI.heap.UpToSlots s3.heap
  fl : HandSPX.FlyingZ B (X.env :: X.outer) a (Zc cls d) s3.heap
  na : H a = none
  os : s3.os = sI.os
  ag : AllBare s3.gens
theorem Got.notFrame {pins : List (Addr × Obj)} {σ : L2.St} {H : Hp} {a : Addr} {B : Heap} {sI s3 : Shared} {cls : Value} {d : Option Addr} (g : Got X pins σ H a B sI s3 cls d) (hf : X.env.frame = some X.env.locals) : a ≠ X.env.locals ∧ a ∉ X.fs := by
  obtain ⟨oe, vs, e1, _, e3⟩ := g.fl.there
  have nfr : a ∉ frs (X.env :: X.outer) := fun hm => by
    obtain ⟨_, o, e, hnf⟩ := g.fl.2.2.1.mem hm
    rw [e1] at e; cases e; exact hnf _ e3
  refine ⟨fun z => nfr (List.mem_filterMap.mpr ⟨_, List.mem_cons_self, hf.trans (congrArg some z.symm)⟩), fun hm => ?_⟩
  obtain ⟨e, y1, y2⟩ := List.mem_filterMap.mp hm
  exact nfr (List.mem_filterMap.mpr ⟨e, List.mem_cons_of_mem _ y1, y2⟩)
theorem clauses (hs : X.stack = X.env :: X.outer) (hf : X.env.frame = some X.env.locals) (hN : X.N.Nodup) (hi : X.N[i]? = some n) (hln : X.env.kindOf n = some .local) (tk : Takes X W0) {D : Ends}
    {pins : List (Addr × Obj)} {σ : L2.St} {H : Hp} {a : Addr} {B : Heap} {sI s3 : Shared} {cls : Value} {d : Option Addr} (ok : X.Ok) (g : Got X pins σ H a B sI s3 cls d) :
    ∀ {hl : List ExceptHandler} {cl : List Cl}, AsOk X n hl cl → wAsM X.K i W0 D cl cls d σ H → wpAny (model X.prog X.w) X.A (handleBy (.ref a) X.env hl) (SP X pins D) X.xe s3 := by
  intro hl cl hk
  obtain ⟨nL, nF⟩ := g.notFrame hf
  have I3 : Inv X pins σ H s3 := g.inv.landed g.nb g.fl.1 g.up g.os g.ag
  obtain ⟨o3, v3, x3, z3, d3⟩ := g.fl.there
  have S3 := I3.suite x3 d3 g.na nL nF
  induction hk with
  | nil =>
    intro wv
    refine wpAny_handleBy_nil ?_
    obtain ⟨_, _, _, oe, vs, T, _, _, y1, _, y3, y4, _⟩ := id g.fl
    unfold PySem.passOn
    refine wpAny_bind (wpAny_field y1 y3 y4 ?_)
    rw [if_neg (show ¬ ((Value.ref T == Value.none) = true) by simp), hf]
    refine wpAny_bind (HandSPX.setFlight_upZ g.fl fun h4 hh up => wpAny_throw (tk _ _ ?_))
    exact ⟨a, B, sI, pins, σ, H, cls, d, rfl, g.inv, g.nb, g.up.trans up, .inr (.inr (by rw [hs]; exact hh)), g.na, g.os, g.ag, wv⟩
  | @cons x c ts b0 su np p' hs2 l2 hc hsu r ih =>
    rintro ⟨b, hb, yes, no⟩
    refine wpAny_handleBy_cons (codeAny_handlers_test ?_) (by intro q; cases q)
    have tyE : PySem.W.Looks (model X.prog X.w) s3.heap (typeOf (.ref a)) cls := fun _ _ _ _ k q => wpAny_typeOf_ref (k _ _ x3) (by rw [z3.1]; exact q)
    have exm := PySem.W.exm_one (M := model X.prog X.w) I3.kIn tyE hb
    have nm : ∀ {Q : Value → Shared → Prop} {E : Value → Shared → Prop}, Q c s3 → wpAny (model X.prog X.w) (X.A.mark (some (.ref a))) (eval (.Name x np) X.env) Q E s3 := fun q => by
      obtain ⟨w1, w2, w3 | ⟨w3, w4, w5⟩⟩ := hc
      · exact ld_glob (X := X.suite a ((a, o3) :: (X.pn ++ pins))) S3 w1 w3 q w2
      · exact ld_blt (X := X.suite a ((a, o3) :: (X.pn ++ pins))) S3 w1 w3 w4 q w5 w2
    refine nm (exm.here ?_)
    cases b with
    | false => exact ih (no rfl)
    | true =>
      refine codeAny_handlers_suite_as (HandSPX.lands_againZ g.fl fun h4 fl4 up4 => ?_)
      have I4 : Inv X pins σ H { s3 with heap := h4 } := g.inv.landed g.nb fl4.1 (g.up.trans up4) g.os g.ag
      obtain ⟨o4, v4, x4, z4, d4⟩ := fl4.there
      refine store_ok (X := X.suite a ((a, o4) :: (X.pn ++ pins))) (v := .ref a) (I4.suite x4 d4 g.na nL nF) hN hi (.inl hln) rfl (fun s5 S5 => ?_) (.inr hln)
      refine wpAny_mono ((hsu a o4 cls d (X.pn ++ pins) z4 ⟨_, d4⟩).run [] s5 _ H _ S5 (yes rfl a g.na)) (fun fl s6 sp => ?_) (fun _ _ z => z.elim)
      have off : ∀ {σ' : L2.St} {H' : Hp} {Q : Shared → Prop}, Inv (X.suite a ((a, o4) :: (X.pn ++ pins))) [] σ' H' s6 → (∀ s7, Inv X pins (σ'.set i none) H' s7 → Q s7) →
          wpAny (model X.prog X.w) X.A (do bindName X.env n .none; unbindBehindTheSuite X.env n p') (fun _ s7 => Q s7) X.xe s6 := fun y q => gone_ok (y.unsuite ok) hN hi hln q
      cases fl with
      | next => obtain ⟨_, _, y, q⟩ := sp; exact off y fun _ j => ⟨_, _, j, q⟩
      | brk => obtain ⟨_, _, y, q⟩ := sp; exact off y fun _ j => ⟨_, _, j, q⟩
      | cont => obtain ⟨_, _, y, q⟩ := sp; exact off y fun _ j => ⟨_, _, j, q⟩
      | ret u => obtain ⟨_, _, _, y, rr, q⟩ := sp; exact off y fun _ j => ⟨_, _, _, j, rr, q⟩
theorem ps_try_asM (hs : X.stack = X.env :: X.outer) (hf : X.env.frame = some X.env.locals) (hN : X.N.Nodup) (hi : X.N[i]? = some n) (hln : X.env.kindOf n = some .local) (tk : Takes X W0)
    (hb : ∀ (W : WX) (pn : List (Addr × Obj)) (xe : Value → Shared → Prop), Takes (X.tr pn xe) W → PassesOwn (model X.prog X.w) X.A X.env xe → PSs (X.tr pn xe) body (tb W)) (hh : AsOk X n (h0 :: hds) l) :
    PS X (.Try body (h0 :: hds) [] [] pos) (fun D σ H => tb (wAsM X.K i W0 D l) D σ H) := by
  refine ⟨fun pins s σ H D I h => ?_⟩
  have ok := I.ok
  refine wpAny_Try_except ?_
  have run := (hb (wAsM X.K i W0 D l) (X.pn ++ pins) (fun e s1 => wpAny (model X.prog X.w) X.A (noteFrame e X.env) (fun _ s2 => wpAny (model X.prog X.w) X.A (setFlight e none) (fun _ s3 => wpAny (model X.prog X.w) X.A (handleBy e X.env (h0 :: hds)) (SP X pins D) X.xe s3) X.xe s2) X.xe s1)
    (fun u s' xx => by
      obtain ⟨a, B, sI, pins', σ', H', cls, d, rfl, J, nb, up, sky, na, os, ag, wv⟩ := xx
      have sky' : Sky B (X.env :: X.outer) a (Zc cls d) X.env.locals s'.heap := by rw [← hs]; exact sky
      show wpAny (model X.prog X.w) X.A (noteFrame (.ref a) X.env) _ _ _
      refine Sky.land Zc.steady (ok.frames.trans (congrArg some hs)) hf sky' fun h3 fl3 up3 => ?_
      exact clauses hs hf hN hi hln tk ok (s3 := { s' with heap := h3 }) ⟨J.ofTry ok, nb, up.trans up3, fl3, na, os, ag⟩ hh wv) PassesOwn.looking).run [] s σ H D (I.toTry _) h
  refine wpAny_mono run (fun f s1 sp => ?_) (fun _ _ z => z)
  cases f with
  | next => obtain ⟨_, _, y, q⟩ := sp; exact wpAny_execs_nil ⟨_, _, y.ofTry ok, q⟩
  | brk => obtain ⟨_, _, y, q⟩ := sp; exact ⟨_, _, y.ofTry ok, q⟩
  | cont => obtain ⟨_, _, y, q⟩ := sp; exact ⟨_, _, y.ofTry ok, q⟩
  | ret u => obtain ⟨_, _, _, y, rr, q⟩ := sp; exact ⟨_, _, _, y.ofTry ok, rr, q⟩
end
end RT

set_option maxRecDepth 100000
set_option maxHeartbeats 4000000
/-! own `in`; an own instance called with keywords -/
namespace RI
open PySem PySem.Spec PyProof.Rows L2 PySem.W
section
variable {M : Model} {A : Around} {E : Value → Shared → Prop} {s : Shared} {K : Frag} {a C f : Addr} {ox : Obj} {od : Option Obj}
theorem contains_own {v : Value} {Q : Bool → Shared → Prop} (X : K.In s.heap) (I : InstAt s.heap a ox C od) (hs : findIn K (.ref C) "__contains__" = some (some (.ref f))) (hf : typeIn K (.ref f) = some (.type "function"))
    (h : wpAny M A (call (.ref f) [.ref a, v]) (fun r s' => wpAny M A (truthy r) Q E s') E s) : wpAny M A (contains (.ref a) v) Q E s := by
  unfold contains
  refine wpAny_holding ?_
  rw [show stdlibNamesSay? (.ref a) v = none from rfl]
  have look : Looks M s.heap (specialOf (.ref a) "__contains__") (some (.ref f)) := I.type.andThen (looks_findIn X hs)
  refine wpAny_bind (look.here ?_)
  show wpAny M A (if (some (Value.ref f) == some Value.none) = true then _ else _) Q E s
  rw [if_neg (by simp)]
  refine wpAny_bind ?_
  unfold callSpecialUnlessNone?
  refine wpAny_bind (look.here (wpAny_holding (wpAny_bind ((bind_fn X (.ref a) hf).here ?_))))
  show wpAny M A (if ((Value.ref f) == Value.none) = true then _ else _) _ E s
  rw [if_neg (by simp)]
  refine wpAny_bind ?_
  exact wpAny_mono h (fun r s' z => wpAny_pure z) fun _ _ z => z
end
section
variable {X : Cx} {C f : Addr} {k : Nat} {CX : CXT} {fd : FuncData} {ps : List Str} {sp : Sp} {E : XK}
/-- v in o, o of an own class whose own __contains__ says a bool -/
def rInOwn (C : Addr) (sp : Sp) (E : XK) : R2 := fun x y H Q => ∃ a dx fs, y = .ref a ∧ H a = some (.ins C dx fs) ∧ sp [.ref a, x] H (fun v H' => ∃ r, v = .bl r ∧ Q (.bl r) H') E
theorem op_inOwn (F : FnOk X.prog X.w X.K X.mg X.base CX k f fd ps sp) (hs : findIn X.K (.ref C) "__contains__" = some (some (.ref f))) (hf : typeIn X.K (.ref f) = some (.type "function")) (hb : Binds X.K fd ps []) (hr : Room k X.A) (hx : Passes CX X E) :
    OpR X (compareOp .In) (rInOwn C sp E) := by
  intro pins s σ H x y v u Q I rx ry h
  obtain ⟨a, dx, fs, rfl, ha, hsp⟩ := h
  cases (show u = Value.ref a from ry)
  obtain ⟨mA, J, _⟩ := ins_get I.hok ha
  obtain ⟨od, J, _⟩ := J.look
  have hl := F.len _ _ _ _ hsp
  have r2 : Vals [V.ref a, x] [Value.ref a, v] := .cons rfl (.cons rx .nil)
  show wpAny (model X.prog X.w) X.A (do return .bool (← contains (.ref a) v)) (EP X pins σ Q) X.xe s
  refine wpAny_bind (contains_own I.kIn J hs hf (wpAny_call (codeAny_mono (F.run X.A X.stack s H ⟨[.ref a, v], []⟩ [.ref a, v] [.ref a, x] _ E hr I.env0 (by
    have := hb s [.ref a, v] I.kIn (by simpa using hl)
    simpa using this) r2 hsp) fun r s' hq => ?_)))
  cases r with
  | error e => exact hx pins σ H s e s' I hq
  | ok fl =>
    cases fl with
    | ret w =>
      obtain ⟨z, H', I', rz, r, ez, q⟩ := I.after hq
      subst ez
      cases rz
      exact wpAny_pure (wpAny_pure ⟨.bl r, H', I', rfl, q⟩)
    | next => exact False.elim hq
    | brk => exact False.elim hq
    | cont => exact False.elim hq
/-- o(e, .., k = v, ..) -/
def tCallON (X : Cx) (C : Addr) (n m : Nat) (sp : Sp) (gV : List V → List V → List V) (E : XK) (tf : TE) (t tk : TA) : TE := fun σ H Q => tf σ H fun y H1 => ∃ a, y = V.ref a ∧ t σ H1 fun vs H2 => tk σ H2 fun zs H3 =>
  vs.length = n ∧ zs.length = m ∧ (∃ dx fs, H3 a = some (.ins C dx fs)) ∧ sp (gV (V.ref a :: vs) zs) H3 Q E
theorem pe_callON {n : Nat} {ks : List Str} {fe e : Expr} {es : List Expr} {kws : List Keyword} {pos : Pos} {tf : TE} {t tk : TA} {g : List Value → List Value → List Value} {gV : List V → List V → List V} (hf : PE X fe tf) (c : StX.CallO X.K C f)
    (F : FnOk X.prog X.w X.K X.mg X.base CX k f fd ps sp) (hr : Room k X.A) (hb : KBn X.K fd ps (n + 1) ks g gV) (hx : Passes CX X E) (ha : PA X (e :: es) t) (hkw : PK X kws tk)
    (hall : (backToKw pos (keywordEach kws X.env)).all (·.1.isSome) = true := by rfl) (hks : (backToKw pos (keywordEach kws X.env)).filterMap (·.1) = ks := by rfl)
    (ht : eval (.Call fe (e :: es) kws pos) X.env = (do callWith pos (← eval fe X.env) [] (backTo pos (starEach (e :: es) X.env)) (backToKw pos (keywordEach kws X.env))) := by rfl)
    (he : starEach (e :: es) X.env = (false, eval e X.env) :: starEach es X.env := by rfl)
    (hpl : ((backTo pos (starEach (e :: es) X.env)).any (·.1) || (backToKw pos (keywordEach kws X.env)).any (·.1.isNone)) = false := by rfl) :
    PE X (.Call fe (e :: es) kws pos) (tCallON X C n ks.length sp gV E tf t tk) := by
  refine ⟨fun pins s σ H Q I h => ?_⟩
  rw [ht]
  refine wpAny_bind (thn (hf.run pins s σ H _ I h) fun u s1 hu => ?_)
  obtain ⟨y, H1, I1, ry, a, rfl, q⟩ := hu
  obtain rfl : u = Value.ref a := ry
  unfold callWith
  refine wpAny_bind (wpAny_holding ?_)
  refine evalArgs_kw2 hall (thn (ha.run pos pins s1 σ H1 _ I1 q) fun us s2 h2 => ?_) he
  obtain ⟨vs, H2, I2, r, q2⟩ := h2
  refine thn (hkw.run pos pins s2 σ H2 _ I2 q2) fun ws s3 h3 => ?_
  obtain ⟨zs, H3, I3, rz, l1, l2, ⟨dx, fs, ha3⟩, hsp⟩ := h3
  refine wpAny_bind (wpAny_standAt ?_)
  obtain ⟨mA, O, _⟩ := ins_get I3.hok ha3
  obtain ⟨od, J, _⟩ := O.look
  have keep := kco_keeper (M := model X.prog X.w) J rfl
  simp only [hpl]
  refine wpAny_bind (keep.here ?_)
  have r1 : Vals (V.ref a :: vs) (Value.ref a :: us) := .cons rfl r
  have run : wpAny (model X.prog X.w) X.A (call (.ref a) us (ks.zip ws)) (EP X pins σ Q) X.xe s3 := by
    refine wpAny_call (kco_code I3.kIn J rfl c.at_ c.fn c.fi ?_)
    refine codeAny_mono (F.run X.A X.stack s3 H3 ⟨.ref a :: us, ks.zip ws⟩ (g (.ref a :: us) ws) _ Q E hr I3.env0 (hb.to _ _ ws I3.kIn (by rw [← r1.length, List.length_cons, l1]) (by rw [← rz.length, l2])) (hb.rel r1 rz) hsp) fun r s' hq => ?_
    cases r with
    | error e => exact hx pins σ H3 s3 e s' I3 hq
    | ok fl =>
      cases fl with
      | ret u => exact I3.after hq
      | next => exact False.elim hq
      | brk => exact False.elim hq
      | cont => exact False.elim hq
  rw [hks]
  have go : ∀ {t : Sem Value}, wpAny (model X.prog X.w) X.A t (EP X pins σ Q) X.xe s3 → wpAny (model X.prog X.w) X.A (t >>= fun r => holding [r] point >>= fun _ => pure r) (EP X pins σ Q) X.xe s3 :=
    fun hh => wpAny_bind (wpAny_mono hh (fun _ _ hz => wpAny_bind (wpAny_holding (wpAny_point (wpAny_pure hz)))) fun _ _ z => z)
  exact go (wpAny_operateT run)
end
end RI

set_option maxRecDepth 100000
set_option maxHeartbeats 2000000
/-! list(o) where o's own __iter__ returns iter(d) of a dict in a field -/
namespace RK
open PySem PySem.Spec PyProof.Rows L2 ItX RO
abbrev kitObj (d : Addr) (n ep : Nat) : Obj := { cls := .type "dict_keyiterator", data := .fields #[.ref d, .int (0 : Nat) 0, .int n 0, .int ep 0] }
def KitO (d it n ep : Nat) : HO := .ext fun h => h.get? it = some (kitObj d n ep)
theorem kitO_ok {P : Program} {w : World} {H : Hp} {h : Heap} {d it n ep : Nat} (e : h.get? it = some (kitObj d n ep)) : ObjOk P w H h it (KitO d it n ep) := ⟨e, ⟨_, e⟩, fun h1 h2 q k => k _ q⟩
section
variable {X : Cx}
/-- iter(d) of a locked dict -/
theorem call_iterK : CallR X (.builtin "iter") (fun xs H Q => ∃ (d : Addr) (o : Obj) (kvs : List (Key × V)), xs = [.ref d] ∧ H d = some (.frz o (.dK kvs)) ∧
    ∀ it es ep, o.data = .dict es ep → H it = Option.none → X.s_0.heap.objs.size ≤ it → Q (.ref it) (upd H it (KitO d it kvs.length ep))) := by
  intro pins s σ H xs us Q I r h
  obtain ⟨d, o, kvs, rfl, hd, q⟩ := h
  obtain ⟨u, rfl, ru⟩ := vals1 r
  cases ru
  obtain ⟨hs, hgd, hx, es, ep, vs, hdt, hsz, kv, hm⟩ := I.frzK hd
  refine Calls.call_function_entry (by decide +kernel) (by decide +kernel) PySem.W.kdk_entry_iter (PySem.W.kdk_args_iter _) ?_
  unfold Builtin.«iter»
  refine wpAny_bind (m := someArgs "iter" 1 2 _) (wpAny_of_eq (a := [Value.ref d]) (by first | rfl | kernel_rfl!) ?_)
  show wpAny _ _ (pyIter (.ref d) >>= _) _ _ _
  refine wpAny_bind (iter_keys hs hgd hx hdt ?_)
  refine wpAny_pure ⟨_, rfl, ?_⟩
  have q' := q s.heap.objs.size es ep hdt (I.hok.fresh (Nat.le_refl _)) I.sz
  rw [hsz]
  exact ⟨.ref s.heap.objs.size, _, I.laid (t' := s.toks) (fun b u e => Heap.get?_push_of_some _ e) (Nat.le_refl _) (kitO_ok (Heap.get?_push_size _ rfl)), rfl, q'⟩
end
/-- __iter__ hands back a new iterator over the locked dict in a field -/
def spItK (C : Addr) (fld : Str) (n : Nat) : Sp := fun vs H Q _ => ∃ (p dx d : Addr) (fs : List (Str × V)) (o : Obj) (kvs : List (Key × V)), vs = [.ref p] ∧ H p = some (.ins C dx fs) ∧ fs.lookup fld = some (.ref d) ∧ H d = some (.frz o (.dK kvs)) ∧
  ∀ it es ep, o.data = .dict es ep → H it = none → n ≤ it → Q (.ref it) (upd H it (KitO d it kvs.length ep))
structure ItrK (X : Cx) (C fi : Addr) (fdI : FuncData) (fld : Str) (k : Nat) : Prop where
  it : PySem.W.findIn X.K (.ref C) "__iter__" = some (some (.ref fi))
  itF : PySem.W.isFn X.K (.ref fi) = true
  fn : FnN X.prog X.w X.K X.mg X.base CX0 k fi fdI ["self"] (spItK C fld)
  bi : Binds X.K fdI ["self"] []
section
variable {X : Cx} {pins : List (Addr × Obj)} {σ : L2.St} {H : Hp} {s : Shared} {A1 : Around} {C fi fl p dx d : Addr} {fdI fdL : FuncData} {fld : Str} {k : Nat} {fs : List (Str × V)} {o : Obj} {kvs : List (Key × V)}
/-- iter(o) -/
theorem own_iterK {Q : Value → Shared → Prop} (sb : Sub X k A1) (c : ItrK X C fi fdI fld k) (I : Inv X pins σ H s) (hp : H p = some (.ins C dx fs)) (hf : fs.lookup fld = some (.ref d)) (hd : H d = some (.frz o (.dK kvs)))
    (h : ∀ it es ep s', o.data = .dict es ep → H it = none → s.heap.objs.size ≤ it → s'.heap.get? it = some (kitObj d kvs.length ep) → Inv X pins σ H s' → Q (.ref it) s') : wpAny (model X.prog X.w) A1 (pyIter (.ref p)) Q X.xe s := by
  obtain ⟨mA, J, _⟩ := ins_get I.hok hp
  obtain ⟨od, J, _⟩ := J.look
  obtain ⟨m0, hF⟩ := I.fr
  refine PySem.W.owit_iter hF I.ok.mod.kin J c.it c.itF ?_
  have hsp : spItK C fld s.heap.objs.size [.ref p] H (fun v H' => ∃ it es ep, v = .ref it ∧ o.data = .dict es ep ∧ H it = none ∧ s.heap.objs.size ≤ it ∧ H' = upd H it (KitO d it kvs.length ep)) E0 := ⟨p, dx, d, fs, o, kvs, rfl, hp, hf, hd, fun it es ep h0 h1 h2 => ⟨it, es, ep, rfl, h0, h1, h2, rfl⟩⟩
  have r2 : Vals [V.ref p] [Value.ref p] := .cons rfl .nil
  refine wpAny_call (codeAny_mono (c.fn.run A1 X.stack s H ⟨[.ref p], []⟩ [.ref p] [.ref p] _ E0 sb.room (env_sub I sb) (by
    have := c.bi s [.ref p] I.kIn rfl
    simpa using this) r2 hsp) fun r s' hq => ?_)
  cases r with
  | error e => exact absurd hq (fun z => z.elim)
  | ok fl =>
    cases fl with
    | next => exact False.elim hq
    | brk => exact False.elim hq
    | cont => exact False.elim hq
    | ret u =>
      obtain ⟨v, H', I', rv, it, es, ep, rfl, hdt, hn, hsz, rfl⟩ := I.after hq
      cases rv
      have eo : s'.heap.get? it = some (kitObj d kvs.length ep) := (I'.hok it _ upd_same).1
      have I2 := inv_drop I' (show upd H it (KitO d it kvs.length ep) it = some (.ext _) from upd_same)
      rw [dropH_upd hn] at I2
      have hT : s'.TypeIs (.ref it) "dict_keyiterator" := ⟨_, eo, rfl⟩
      unfold PySem.W.OwitIt
      exact wpAny_specialOf (name := Str.ofString "__next__") hT PySem.F.slot_dict_keyiterator_next.lookup (h it es ep s' hdt hn hsz eo I2)
/-! ### list(o) -/
theorem ext_loopK {q it : Addr} {es : Array DictEntry} {ep : Nat} {Rs : Result → Shared → Prop} (hh : A1.in1.handled = none) (ndq : d ≠ q) (hd : H d = some (.frz o (.dK kvs))) (hdt : o.data = .dict es ep) (hsz : kvs.length < sizeLine) (hq0 : H q = some (.lst []))
    (hdone : ∀ s, Inv X pins σ (upd H q (.lst (kvs.map fun kv => kV kv.1))) s → Rs (.ok (.ret .none)) s) :
    ∀ (n i : Nat) (s : Shared), n + i = kvs.length → Inv X pins σ (upd H q (.lst ((kvs.map fun kv => kV kv.1).take i))) s → s.heap.IsKeyIter it d i kvs.length ep → FpOk X pins H it →
      codeAny (model X.prog X.w) A1 (.builtin "list.extend.loop" ⟨[.ref q, .ref it, .none], []⟩) Rs s := by
  intro n
  induction n with
  | zero =>
    intro i s hi I st fp
    refine codeAny_builtin PySem.F.entry_extend_loop ?_
    rw [Around.under_plainId PySem.F.plain_extend_loop _]
    show wpAny _ A1.in1 (pyNext (.ref it) >>= _) _ _ s
    have hd' : upd H q (.lst ((kvs.map fun kv => kV kv.1).take i)) d = some (.frz o (.dK kvs)) := by rw [upd_ne ndq]; exact hd
    obtain ⟨hs, hgd, hx, es', ep', vs, hdt', hsz', kv, hm⟩ := I.frzK hd'
    obtain ⟨rfl, rfl⟩ := dict_ep hdt hdt'
    obtain ⟨f0, f1, f2, f3, f4, f5⟩ := fp
    have niq : it ≠ q := fun e => by rw [e, hq0] at f0; cases f0
    have e1 : (kvs.map fun kv => kV kv.1).take i = kvs.map fun kv => kV kv.1 := List.take_of_length_le (by rw [List.length_map]; omega)
    refine wpAny_bind (next_key_end hh st hgd hdt hsz' (by omega) fun h' eb => ?_)
    rw [e1] at I
    have I' : Inv X pins σ (upd H q (.lst (kvs.map fun kv => kV kv.1))) { s with heap := h' } := I.turned (t' := s.toks) (fun b o hb e => eb b o hb e) (by rw [upd_ne niq]; exact f0) f1 f3 f4 f5
    exact wpAny_pure (hdone _ I')
  | succ n ih =>
    intro i s hi I st fp
    refine codeAny_builtin PySem.F.entry_extend_loop ?_
    rw [Around.under_plainId PySem.F.plain_extend_loop _]
    show wpAny _ A1.in1 (pyNext (.ref it) >>= _) _ _ s
    have hd' : upd H q (.lst ((kvs.map fun kv => kV kv.1).take i)) d = some (.frz o (.dK kvs)) := by rw [upd_ne ndq]; exact hd
    obtain ⟨hs, hgd, hx, es', ep', vs, hdt', hsz', kv, hm⟩ := I.frzK hd'
    obtain ⟨rfl, rfl⟩ := dict_ep hdt hdt'
    obtain ⟨f0, f1, f2, f3, f4, f5⟩ := id fp
    have niq : it ≠ q := fun e => by rw [e, hq0] at f0; cases f0
    have hil : i < kvs.length := by omega
    obtain ⟨⟨k0, v0⟩, hkv⟩ : ∃ p, kvs[i]? = some p := ⟨kvs[i], List.getElem?_eq_getElem hil⟩
    obtain ⟨u, hu, ru⟩ := kv_get kv hkv
    have hl : kvs.length = vs.length := Paired.length kv
    have st0 := st
    rw [hl] at st0
    refine wpAny_bind (wpAny_pyNext_dict_item st0 hm hu fun key h' hkey st' sb => ?_)
    rw [← hl] at st'
    have I1 : Inv X pins σ (upd H q (.lst ((kvs.map fun kv => kV kv.1).take i))) { s with heap := h' } := I.turned (t' := s.toks) (fun b o hb e => (sb.2 b hb).trans e) (by rw [upd_ne niq]; exact f0) f1 f3 f4 f5
    have ru2 : RelV (kV k0) key := relV_key (show keyIs k0 key = true from hkey)
    show wpAny _ A1.in1 (updateSeq q (·.push key) >>= _) _ _ _
    obtain ⟨z, its2, kk, r2, hl2, e2⟩ := I1.lstM upd_same
    have hlt : ((kvs.map fun kv => kV kv.1).take i).length = i := by rw [List.length_take, List.length_map]; omega
    refine wpAny_bind (wpAny_updateSeq e2 rfl (wpAny_pure ⟨plainId_quiet PySem.F.plain_extend_loop _, ?_⟩) (by rw [List.size_toArray, ← hl2, hlt]; omega) (by show (its2.toArray.push key).size ≤ sizeLine + 1; rw [Array.size_push, List.size_toArray, ← hl2, hlt]; omega))
    have e3 : (kvs.map fun kv => kV kv.1).take (i + 1) = (kvs.map fun kv => kV kv.1).take i ++ [kV k0] := by rw [List.take_add_one, List.getElem?_map, hkv]; rfl
    have I2 := I1.lset (f := (·.push key)) (its' := its2 ++ [key]) (ys := (kvs.map fun kv => kV kv.1).take (i + 1)) (t' := s.toks) upd_same e2 (by simp) (by rw [e3]; exact r2.append (.cons ru2 .nil)) (by rw [List.length_take, List.length_map]; omega)
    rw [upd_upd] at I2
    refine ih (i + 1) _ (by omega) I2 (st'.at fun o e => ?_) fp
    exact (Heap.get?_update_other _ _ (Ne.symm niq)).trans e
theorem own_extendK {q : Addr} {Rs : Result → Shared → Prop} {sp : Sp} {m : Nat} (sb : Sub X (k + 1) A1.in1) (hh : A1.in1.handled = none) (ci : ItrK X C fi fdI fld k) (cl : LenC X C fl fdL sp k) (I : Inv X pins σ H s) (hp : H p = some (.ins C dx fs)) (hf : fs.lookup fld = some (.ref d)) (hd : H d = some (.frz o (.dK kvs))) (hsz : kvs.length < sizeLine)
    (hm : m ≤ sizeLine) (hsp : sp [.ref p] H (fun v H' => v = .int (m : Int) ∧ H' = H) E0) (hq : H q = some (.lst [])) (ndq : d ≠ q) (hdone : ∀ s, Inv X pins σ (upd H q (.lst (kvs.map fun kv => kV kv.1))) s → Rs (.ok (.ret .none)) s) (herr : ∀ e s, X.xe e s → Rs (.error e) s) :
    wpAny (model X.prog X.w) A1.in1 (Builtin.List.listExtendWith (.ref q) (.ref p) .none)
      (fun fin s' => match fin with | .done f => Rs (.ok f) s' | .again c' => c'.quiet = true ∧ codeAny (model X.prog X.w) A1 c' Rs s') (fun e s' => Rs (.error e) s') s := by
  have hne : q ≠ p := ne_of hq hp (fun z => nomatch z)
  obtain ⟨mA, J, _⟩ := ins_get I.hok hp
  obtain ⟨od, J, _⟩ := J.look
  unfold Builtin.List.listExtendWith
  refine wpAny_bind (J.type.here ?_)
  have h1 : Builtin.List.listSameRef (.ref q) (.ref p) = false := by simp [Builtin.List.listSameRef, hne]
  have h2 : (Value.ref C == Value.type "list") = false := rfl
  have h3 : (Value.ref C == Value.type "tuple") = false := rfl
  simp only [h1, h2, h3, Bool.or_false, Bool.false_eq_true, if_false]
  refine wpAny_bind (wpAny_mono (own_iterK (Q := fun v s' => ∃ it es ep, v = .ref it ∧ o.data = .dict es ep ∧ H it = none ∧ s.heap.objs.size ≤ it ∧ s'.heap.get? it = some (kitObj d kvs.length ep) ∧ Inv X pins σ H s') (sb.mono (Nat.le_succ k)) ci I hp hf hd fun it es ep s' z a b c e => ⟨it, es, ep, rfl, z, a, b, c, e⟩) (fun v s' hv => ?_) fun e s' he => herr e s' he)
  obtain ⟨it, es, ep, rfl, hdt, hn, hge, eo, I'⟩ := hv
  have fp : FpOk X pins H it := I.fpOk hge hn
  have niq : it ≠ q := fun e => by rw [e, hq] at hn; cases hn
  have hint : wpAny (model X.prog X.w) A1.in1 (Builtin.List.listLengthHint (.ref p)) (fun b s2 => Inv X pins σ H s2 ∧ s2.heap.IsKeyIter it d 0 kvs.length ep) (fun e s' => Rs (.error e) s') s' := by
    obtain ⟨mA', J', _⟩ := ins_get I'.hok hp
    obtain ⟨od', J', _⟩ := J'.look
    have IP : Inv X ((it, kitObj d kvs.length ep) :: pins) σ H s' := I'.pins_of fun r hr => by
      rcases List.mem_cons.mp hr with e | hr
      · rw [e]
        exact ⟨eo, hn, fp.2.1, fp.2.2.1, fun v z => by cases z⟩
      · exact I'.pin r (List.mem_append_right _ hr)
    unfold Builtin.List.listLengthHint
    refine wpAny_bind (wpAny_bind (J'.type.here ((PySem.W.looks_findIn I'.kIn cl.at_).here ?_)))
    refine PySem.W.KFB.if_not rfl ?_
    refine PySem.W.KFB.if_so rfl ?_
    refine wpAny_bind (wpAny_rule ?_)
    refine wpAny_bind (wpAny_attempt ?_)
    refine wpAny_mono (own_len (Q := fun v s2 => ∃ t, v = .int (m : Int) t ∧ Inv X ((it, kitObj d kvs.length ep) :: pins) σ H s2) (E' := fun _ _ => False) (Sub.in1 sb) cl.at_ cl.ty cl.fn cl.bi IP hp hm hsp fun t s2 h => ⟨t, rfl, h⟩) (fun v s2 hv => ?_) (fun e s2 he => he.elim)
    obtain ⟨t, rfl, I2⟩ := hv
    refine wpAny_bind (m := asInt? (.int (m : Int) t)) (wpAny_pure ?_)
    refine PySem.W.KFB.if_not (notLongL (by rw [Int.toNat_natCast]; exact hm)) ?_
    have eo2 := (I2.pin (it, kitObj d kvs.length ep) (List.mem_append_right _ List.mem_cons_self)).1
    exact wpAny_pure ⟨I2.pins_of fun r hr => I2.pin r (List.mem_append_right _ (List.mem_cons_of_mem _ hr)), _, eo2, rfl, rfl⟩
  refine wpAny_bind (wpAny_holding (wpAny_mono hint (fun room s2 hr => ?_) fun _ _ z => z))
  obtain ⟨I2, st2⟩ := hr
  have hupd : upd H q (.lst ((kvs.map fun kv => kV kv.1).take 0)) = H := by
    funext b
    by_cases hb : b = q
    · rw [hb, upd_same, hq]; rfl
    · rw [upd_ne hb]
  obtain ⟨z, its, k3, r3, hl3, e3⟩ := I2.lstM hq
  cases r3
  refine wpAny_ite_split (fun _ => ?_) (fun _ => wpAny_pure ⟨plainId_quiet PySem.F.plain_extend_loop _, ext_loopK hh ndq hd hdt hsz hq hdone kvs.length 0 s2 rfl (by rw [hupd]; exact I2) st2 fp⟩)
  refine wpAny_bind (wpAny_rule ?_)
  refine wpAny_bind ?_
  show wpAny _ _ (updateSeq q (·.push .none) >>= fun _ => updateSeq q (·.pop)) _ _ _
  refine wpAny_bind (wpAny_updateSeq e3 rfl ?_)
  have I4 := I2.lset (f := (·.push Value.none)) (its' := [Value.none]) (ys := [.non]) (t' := s2.toks) hq e3 (by simp) (.cons rfl .nil) (by rw [List.length_singleton, sizeLine_eq]; decide)
  obtain ⟨z4, its4, k4, r4, hl4, e4⟩ := I4.lstM upd_same
  obtain ⟨u4, rfl, ru4⟩ := r4.one
  refine wpAny_updateSeq e4 rfl ?_ (by show 1 ≤ sizeLine; rw [sizeLine_eq]; decide) (by show 0 ≤ sizeLine + 1; exact Nat.zero_le _)
  have I5 := I4.lset (f := (·.pop)) (its := [u4]) (its' := []) (ys := []) (t' := s2.toks) upd_same e4 (by rfl) .nil (Nat.zero_le _)
  rw [upd_upd] at I5
  refine wpAny_pure ⟨plainId_quiet PySem.F.plain_extend_loop _, ext_loopK hh ndq hd hdt hsz hq hdone kvs.length 0 _ rfl I5 ?_ fp⟩
  exact (st2.at fun o e => (Heap.get?_update_other _ _ (Ne.symm niq)).trans e).at fun o e => (Heap.get?_update_other _ _ (Ne.symm niq)).trans e
/-- list(o): a new list of the keys of the dict in the field -/
theorem call_listOwnK {sp : Sp} (ci : ItrK X C fi fdI fld k) (cl : LenC X C fl fdL sp k) (hc : X.calm = true) (hr : Room (k + 3) X.A) :
    CallR X (.type "list") (fun xs H Q => ∃ (p dx d : Addr) (fs : List (Str × V)) (kvs : List (Key × V)) (m : Nat), xs = [.ref p] ∧ H p = some (.ins C dx fs) ∧ fs.lookup fld = some (.ref d) ∧ H d = some (.dK kvs) ∧ kvs.length ≤ 1000 ∧ m ≤ sizeLine ∧
      (∀ H', H' p = some (.ins C dx fs) → Rd H' d (.dK kvs) → sp [.ref p] H' (fun v H'' => v = .int (m : Int) ∧ H'' = H') E0) ∧ ∀ q, H q = none → Q (.ref q) (upd H q (.lst (kvs.map fun kv => kV kv.1)))) := by
  intro pins s σ H xs us Q I rv h
  obtain ⟨p, dx, d, fs, kvs, m, rfl, hp, hf, hd, hz, hm, hsp, hq⟩ := h
  obtain ⟨u, rfl, ru⟩ := rv.one
  cases ru
  have sb : Sub X (k + 1) X.A.in1.in1 := (Sub.in1 (Sub.in1 (⟨hr, rfl⟩ : Sub X (k + 3) X.A)))
  refine callType_codes (Q₁ := fun obj s₁ => obj = .ref s.heap.objs.size ∧ s₁ = { s with heap := s.heap.push { cls := .type "list", data := .seq #[] } }) PySem.F.called_list (PySem.F.typeCall_list_1 _) PySem.F.entry_list_init
    (code_list_new _ ⟨rfl, rfl⟩) fun obj s₁ h₁ => ?_
  obtain ⟨rfl, rfl⟩ := h₁
  have hS : (s.heap.push { cls := .type "list", data := .seq #[] }).get? s.heap.objs.size = some { cls := .type "list", data := .seq #[] } := Heap.get?_push_size _ rfl
  refine ⟨⟨_, hS, rfl⟩, PySem.F.args_list_init_2 _ _, ?_⟩
  have fr : H s.heap.objs.size = none := I.hok.fresh (Nat.le_refl _)
  have hq' := hq _ fr
  have I1 : Inv X pins σ (upd H s.heap.objs.size (.lst [])) { s with heap := s.heap.push { cls := .type "list", data := .seq #[] } } := I.lnew (its := []) (t' := s.toks) .nil (Nat.zero_le _)
  show wpAny _ _ (do let old ← Builtin.List.listItems (.ref s.heap.objs.size); Builtin.List.listUpdate (.ref s.heap.objs.size) (fun _ => #[]); letGo old.toList.reverse; Builtin.List.listExtendWith (.ref s.heap.objs.size) (.ref p) .none) _ _ _
  refine wpAny_bind ?_
  unfold Builtin.List.listItems
  refine wpAny_bind (wpAny_seqItems hS rfl (wpAny_pure ?_))
  show wpAny _ _ (updateSeq s.heap.objs.size (fun _ => #[]) >>= fun _ => letGo (#[] : Array Value).toList.reverse >>= fun _ => Builtin.List.listExtendWith (.ref s.heap.objs.size) (.ref p) .none) _ _ _
  refine wpAny_bind (wpAny_updateSeq hS rfl ?_)
  have I2 := I1.lset (f := fun _ => #[]) (its := []) (its' := []) (ys := []) (t' := s.toks) upd_same hS rfl .nil (Nat.zero_le _)
  rw [upd_upd] at I2
  refine wpAny_bind (wpAny_letGo ?_)
  have ndq : d ≠ s.heap.objs.size := ne_of_none hd fr
  have hd2 : upd H s.heap.objs.size (.lst []) d = some (.dK kvs) := by rw [upd_ne ndq]; exact hd
  have hp2 : upd H s.heap.objs.size (.lst []) p = some (.ins C dx fs) := by rw [upd_ne (ne_of_none hp fr)]; exact hp
  have npd : p ≠ d := ne_of hp hd (fun z => nomatch z)
  have nf := I2.nofrz hd2 True.intro
  obtain ⟨o, I3⟩ := I2.lock hd2 True.intro
  have hp3 : upd (upd H s.heap.objs.size (.lst [])) d (.frz o (.dK kvs)) p = some (.ins C dx fs) := by rw [upd_ne npd]; exact hp2
  refine own_extendK (q := s.heap.objs.size) (A1 := X.A.in1) (Rs := wants (fun r s₂ => r = .none ∧ EP X pins σ Q (.ref s.heap.objs.size) s₂) X.xe) sb (I.ok.hd hc) ci cl I3 hp3 hf upd_same (Nat.lt_of_le_of_lt hz (by decide)) hm (hsp _ hp3 (.inr ⟨o, upd_same⟩)) (by rw [upd_ne (Ne.symm ndq)]; exact upd_same) ndq
    (fun s' I' => ⟨rfl, .ref s.heap.objs.size, _, I'.unlock (by rw [upd_ne ndq]; exact upd_same) nf, rfl, ?_⟩) (fun e s' he => he)
  have e : upd (upd (upd (upd H s.heap.objs.size (.lst [])) d (.frz o (.dK kvs))) s.heap.objs.size (.lst (kvs.map fun kv => kV kv.1))) d (.dK kvs) = upd H s.heap.objs.size (.lst (kvs.map fun kv => kV kv.1)) := by
    funext b
    by_cases hb : b = d
    · rw [hb, upd_same, upd_ne ndq, hd]
    · rw [upd_ne hb]
      by_cases hb2 : b = s.heap.objs.size
      · rw [hb2, upd_same, upd_same]
      · rw [upd_ne hb2, upd_ne hb, upd_ne hb2, upd_ne hb2]
  rw [e]; exact hq'
end
end RK

set_option maxRecDepth 100000
set_option maxHeartbeats 2000000
/-! an own exception with its own __init__, made where nothing is handled: its context is None -/
namespace RN
open PySem PySem.Spec PyProof.Rows L2
section
variable {X : Cx} {e : Expr} {es : List Expr} {ta : TA} {p pos : Pos}
theorem mk_endN {pins : List (Addr × Obj)} {σ : L2.St} {Ha Hb : Hp} {Q : XK} {hh hh2 hb2 : Heap} {gg gg2 : Array GenState} {d1 dd2 : Drawn} {t1 tt2 : Nat} {oz oz2 : OsState} {a C d : Addr} {fs : List (Str × V)} (T : Raises X (.ref C)) (Ia : Inv X pins σ Ha ⟨hh, gg, d1, t1, oz⟩)
    (ha : hh.objs.size ≤ a) (k : ∀ b o, hh.get? b = some o → hh2.get? b = some o) (un : Un (frs X.stack) [] (upd Ha a (exo a C none)) Hb hh2 hb2) (hok : HOk X.prog X.w Hb hb2) (ho : oz2 = oz) (hb : AllBare gg2)
    (ea : Hb a = some (exo a C (some d))) (ed : Hb d = some (exd d fs)) (hd1 : Ha d = none) (q : Q (.ref C) (some d) (upd (del Hb a) d (.xd fs))) : L2N.MkP X pins σ Q (.ref a) ⟨hb2, gg2, dd2, tt2, oz2⟩ := by
  obtain ⟨t0, G, J, kG, ge, hoe, na⟩ := mk_end0 (d2 := dd2) (t2 := tt2) Ia ha k un hok ho hb ea ed hd1
  exact ⟨a, _, _, ⟨G, gg2, dd2, tt2, oz2⟩, _, .ref C, some d, rfl, J, kG, ge, hoe, ⟨rfl, rfl, fun vs hv => by cases hv; rfl⟩, rfl, rfl, na, rfl, hb, T, q⟩
theorem pmk_oexN {CX : CXT} {x : Str} {C fI : Addr} {k : Nat} {fd : FuncData} {ps : List Str} {sp : Sp} {dz : List Value} {dvz : List V} (T : OexC X.K C) (iC : PySem.W.findIn X.K (.ref C) "__init__" = some (some (.ref fI))) (tI : PySem.W.typeIn X.K (.ref fI) = some (.type "function"))
    (F1 : FnOk X.prog X.w X.K X.mg X.base CX k fI fd ps sp) (hr : Room (k + 1) X.A) (hb : Binds X.K fd ps dz) (hd : Vals dvz dz) (hx : Passes CX X (fun _ _ _ => False)) (hg : Gl X x) (hm : X.mg x = some (.ref C)) (ha : PA X (e :: es) ta)
    (hdb : (x == ("__debug__" : Str)) = false := by decide) (he : starEach (e :: es) X.env = (false, eval e X.env) :: starEach es X.env := by rfl) (hpl : (backTo pos (starEach es X.env)).any (·.1) = false := by rfl) :
    L2N.PMk X (.Call (.Name x p) (e :: es) [] pos) (tMkO C sp dvz ta) := by
  intro pins s σ H Q I h
  obtain ⟨nm, q, N, bs, bm, sn, sub, ab, col, dd, k0, k1, k2, k3, k5, hC, hbm⟩ := T.cls
  refine wpAny_Call_Name_kw (ld_glob I hg hm ?_ hdb)
  refine PySem.W.callWith_K (h₀ := X.base) I.ok.mod.kin T.kC (thn (ha.run pos pins s σ H _ I h) fun uu sa ⟨vv, Ha, Ia, ra, hz, qa⟩ => ⟨Ia.kIn, ?_⟩) he hpl
  show wpAny _ _ (call (.ref C) uu) _ _ _
  obtain ⟨hh, gg, dr, kt, oz⟩ := sa
  have hle : hh.objs.size ≤ hh.objs.size + 1 := Nat.le_succ _
  have hna : Ha (hh.objs.size + 1) = none := Ia.hok.fresh hle
  have hqa := qa (hh.objs.size + 1) hna
  have kp : ∀ b o, hh.get? b = some o → ((hh.push (PySem.W.kdv_tup uu)).push (PySem.HandSPX.excO C hh.objs.size)).get? b = some o := fun b o e => Heap.get?_push_of_some _ (Heap.get?_push_of_some _ e)
  have hob : ((hh.push (PySem.W.kdv_tup uu)).push (PySem.HandSPX.excO C hh.objs.size)).get? (hh.objs.size + 1) = some (PySem.HandSPX.excO C hh.objs.size) := by heap_get
  have Ib : Inv X pins σ (upd Ha (hh.objs.size + 1) (exo (hh.objs.size + 1) C none)) ⟨(hh.push (PySem.W.kdv_tup uu)).push (PySem.HandSPX.excO C hh.objs.size), gg, dr, kt, oz⟩ :=
    Ia.laid (t' := kt) (a := hh.objs.size + 1) (o := exo (hh.objs.size + 1) C none) (h' := (hh.push (PySem.W.kdv_tup uu)).push (PySem.HandSPX.excO C hh.objs.size)) kp hle (exo_ok hob)
  have rb : Vals (V.ref (hh.objs.size + 1) :: (vv ++ dvz)) (Value.ref (hh.objs.size + 1) :: (uu ++ dz)) := .cons rfl (ra.append hd)
  have hlen : (Value.ref (hh.objs.size + 1) :: uu ++ dz).length = ps.length := by
    have e := rb.length
    rw [F1.len _ _ _ _ hqa] at e
    exact e.symm
  have huu : uu.length ≤ sizeLine := by
    rw [← Paired.length ra, sizeLine_eq]
    omega
  refine wpAny_call (PySem.HandSPX.call_own F.excBase_ValueError (fun Y => PySem.HandSPX.refsVE_contains Y bm hbm) (Ia.kIn _ _ hC) (PySem.W.looks_findIn Ia.kIn iC) (fun self => PySem.W.bind_fn Ia.kIn self tI) huu
    (codeAny_mono (F1.run _ X.stack _ _ ⟨Value.ref (hh.objs.size + 1) :: uu, []⟩ (Value.ref (hh.objs.size + 1) :: (uu ++ dz)) _ _ (fun _ _ _ => False) (hr.make C uu []) (Ib.env0.make C uu []) (hb _ (Value.ref (hh.objs.size + 1) :: uu) Ib.kIn hlen) rb hqa) fun r s' hqq => ?_))
  cases r with
  | error erx => exact hx pins σ _ _ erx s' Ib hqq
  | ok fl =>
    cases fl with
    | ret u =>
      obtain ⟨v, Hb, oz2, bar2, unb, hokb, rvv, evv, d, fs, ea, ed, hd1, qb⟩ := hqq
      subst evv
      obtain ⟨hb2, gg2, dd2, tt2, os'⟩ := s'
      exact ⟨rvv, mk_endN (raises_own T.exC T.tyC) Ia hle kp unb hokb oz2 bar2 ea ed hd1 qb⟩
    | next => exact False.elim hqq
    | brk => exact False.elim hqq
    | cont => exact False.elim hqq

end
theorem takes0N {X : Cx} : L2N.Takes X (fun _ _ _ _ => False) := fun _ _ x => by
  obtain ⟨_, _, _, _, _, _, _, _, _, _, _, _, _, _, _, _, z⟩ := x
  exact z.elim
/-- a def that may raise where nothing is handled -/
theorem okXN {P : Program} {w : World} {K : PySem.W.Frag} {mg : Str → Option Value} {base : Heap} {x qual : Str} {st : Stmt} {f : Addr} {fd : FuncData} {N ps : List Str} {k : Nat} {sp : Sp} (F : Fun K x qual st f fd) (S : FnScope N ps (defScope st)) (hl : ∀ vs H Q E, sp vs H Q E → vs.length = ps.length)
    (hb : ∀ (cdv : Value) (A : Around) (outer : List Env) (s : Shared) (H : Hp) (vs : List V) (Q : VK) (E : XK), Room k (A.deeper (envOfC qual (defScope st) s.heap.objs.size f cdv)) → sp vs H Q E →
      ∃ u, PSs (cxOf (L2N.CX P w) P w K mg base N qual (defScope st) f cdv A outer s H E) (defBody st) u ∧ u { nx := fun _ G => Q .non G, rt := Q } (start N vs) H) : FnOk P w K mg base (L2N.CX P w) (k + 1) f fd ps sp := by
  obtain ⟨c1, c2, c3, c4, c5, c6, c7, c8, c9, rfl, lk, hcd⟩ := F.ex
  exact fn_of lk hcd S hl fun A outer s H vs Q E hr hsp => hb c7 A outer s H vs Q E hr hsp
/-- a def called inside an except suite -/
theorem okH {P : Program} {w : World} {K : PySem.W.Frag} {mg : Str → Option Value} {base : Heap} {x qual : Str} {st : Stmt} {f : Addr} {fd : FuncData} {N ps : List Str} {k : Nat} {sp : Sp} (F : Fun K x qual st f fd) (S : FnScope N ps (defScope st)) (hl : ∀ vs H Q E, sp vs H Q E → vs.length = ps.length)
    (hb : ∀ (cdv : Value) (A : Around) (outer : List Env) (s : Shared) (H : Hp) (vs : List V) (Q : VK) (E : XK) (p : Addr × Obj), sp vs H Q E →
      ∃ u, PSs (L2H.cxH CX0 P w K mg base N qual (defScope st) f cdv A outer s H E p) (defBody st) u ∧ u { nx := fun _ G => Q .non G, rt := Q } (start N vs) H) : L2H.FnH P w K mg base CX0 (k + 1) f fd ps sp := by
  obtain ⟨c1, c2, c3, c4, c5, c6, c7, c8, c9, rfl, lk, hcd⟩ := F.ex
  exact L2H.fn_ofH lk hcd S hl fun A outer s H vs Q E p _ _ hsp => hb c7 A outer s H vs Q E p hsp
end RN

set_option maxRecDepth 100000
set_option maxHeartbeats 2000000
/-! for x in o, o's own __iter__ returns iter(d) of a locked dict in a field -/
namespace RK
open PySem PySem.Spec PyProof.Rows L2 ItX RO
section
variable {X : Cx} {C fi : Addr} {fdI : FuncData} {fld : Str} {k : Nat}
def iOwnK (C : Addr) (fld : Str) (te : TE) : TI := fun σ H R => te σ H fun v H1 => ∃ (p dx d : Addr) (fs : List (Str × V)) (o : Obj) (kvs : List (Key × V)), v = .ref p ∧ H1 p = some (.ins C dx fs) ∧ fs.lookup fld = some (.ref d) ∧ H1 d = some (.frz o (.dK kvs)) ∧ R (Itk d o kvs) H1
theorem pi_ownK {tg e : Expr} {te : TE} (c : ItrK X C fi fdI fld k) (hr : Room k X.A) (he : PE X e te) : PI X tg e (iOwnK C fld te) := by
  refine ⟨fun pins s σ H R I h => ?_⟩
  refine thn (he.run pins s σ H _ I h) fun v s1 ⟨y, H1, I1, ry, p, dx, d, fs, o, kvs, ey, hp, hf, hd, q⟩ => ?_
  subst ey
  cases ry
  refine own_iterK (⟨hr, rfl⟩ : Sub X k X.A) c I1 hp hf hd fun it es ep s' hdt hn hsz eo I' => ?_
  exact ⟨it, [it], _, _, H1, rfl, I', turn_keys it hdt, ⟨_, eo, rfl, rfl⟩, fun b hb => by rw [List.mem_singleton.mp hb]; exact I1.fpOk hsz hn, q⟩
end
end RK

set_option maxRecDepth 100000
set_option maxHeartbeats 2000000
/-! o[k] by an own __getitem__, which may raise -/
namespace RK
open PySem PySem.Spec PyProof.Rows L2 RO
section
variable {X : Cx} {C f : Addr} {CX : CXT} {k : Nat} {fd : FuncData} {ps : List Str} {sp : Sp} {E : L2.St → XK} {o i : Expr} {to ti : TE} {pos : Pos}
def tOwnIx (C : Addr) (sp : Sp) (E : L2.St → XK) (to ti : TE) : TE := fun σ H Q => to σ H fun x H1 => ti σ H1 fun y H2 => ∃ (a dx : Addr) (fs : List (Str × V)), x = .ref a ∧ H2 a = some (.ins C dx fs) ∧ sp [.ref a, y] H2 Q (E σ)
theorem pe_ownIx (ho : PE X o to) (hi : PE X i ti) (hs : PySem.W.findIn X.K (.ref C) "__getitem__" = some (some (.ref f))) (hfi : PySem.W.fnIn X.K f = true) (hfn : PySem.W.isFn X.K (.ref f) = true)
    (F : FnOk X.prog X.w X.K X.mg X.base CX k f fd ps sp) (hr : Room (k + 1) X.A) (hb : Binds X.K fd ps []) (hx : ∀ σ, PassesAt CX X σ (E σ))
    (hsl : ∀ (a : Addr) (iv : Value), subscripted i true (.ref a) iv = runValue (.builtin "lifetime.subscript" ⟨[.ref a, iv], []⟩) := by with_unfolding_all (intro _ _; rfl)) : PE X (.Subscript o i pos) (tOwnIx C sp E to ti) := by
  refine ⟨fun pins s σ H Q I h => ?_⟩
  refine Subscript_ (thn (ho.run pins s σ H _ I h) fun u s1 ⟨x, H1, I1, rx, q1⟩ => thn (hi.run pins s1 σ H1 _ I1 q1) fun iv s2 ⟨y, H2, I2, ry, a, dx, fs, ex, ha, hsp⟩ => ?_)
  subst ex
  obtain rfl : u = Value.ref a := rx
  obtain ⟨mA, J, _⟩ := ins_get I2.hok ha
  obtain ⟨od, J, _⟩ := J.look
  obtain ⟨m0, hF⟩ := I2.fr
  refine PySem.W.sub_K hF I2.ok.mod.kin J hs hfi hfn ?_ (hsl a iv)
  have sb : Sub X k X.A.in1 := Sub.in1 (⟨hr, rfl⟩ : Sub X (k + 1) X.A)
  have r2 : Vals [V.ref a, y] [Value.ref a, iv] := .cons rfl (.cons ry .nil)
  have hl : [Value.ref a, iv].length = ps.length := by have := F.len _ _ _ _ hsp; simpa using this
  refine wpAny_call (codeAny_mono (F.run X.A.in1 X.stack s2 H2 ⟨[.ref a, iv], []⟩ [.ref a, iv] [.ref a, y] Q (E σ) sb.room (env_sub I2 sb) (by
    have := hb s2 [.ref a, iv] I2.kIn (by simpa using hl)
    simpa using this) r2 hsp) fun r s' hq => ?_)
  cases r with
  | error e => exact hx σ pins H2 s2 e s' I2 hq
  | ok fl =>
    cases fl with
    | ret u => exact I2.after hq
    | next => exact False.elim hq
    | brk => exact False.elim hq
    | cont => exact False.elim hq
end
end RK

set_option maxRecDepth 100000
set_option maxHeartbeats 2000000
/-! C.m(), m a staticmethod of the class at C without parameters -/
namespace RS
open PySem PySem.Spec PyProof.Rows L2
/-- C.m is a staticmethod: its record at p, its def at g -/
structure CSta (K : PySem.W.Frag) (C : Addr) (mc : Value) (m : Str) (p g : Addr) : Prop where
  at_ : PySem.W.findCls K (.ref C) mc m = some (.get (.builtin "staticmethod.__get__") (.ref p) .none (.ref C))
  rc : ∃ rest, PySem.W.recIn K p "staticmethod" = some (.ref g :: rest)
def tSta (C : Addr) (sp : Sp) (dvs : List V) (E : XK) (ta : TE) : TE := fun σ H Q => ta σ H fun x H1 => x = .ref C ∧ sp dvs H1 Q E
section
variable {X : Cx} {CX : CXT} {k : Nat} {C p g : Addr} {fd : FuncData} {ps : List Str} {ds : List Value} {dvs : List V} {mc : Value} {sp : Sp} {E : XK} {o : Expr} {m : Str} {pos apos : Pos} {ta : TE} {pl : Sem Bool}
theorem pe_smeth0 (he : PE X o ta) (r : ClX.CRead X.K C mc) (c : CSta X.K C mc m p g) (F : FnOk X.prog X.w X.K X.mg X.base CX k g fd ps sp) (hr : Room k X.A) (hk : PySem.W.keepIn X.K (.ref g) = true) (hb : Binds X.K fd ps ds) (hd : Vals dvs ds) (hx : Passes CX X E)
    (ht : eval (.Call (.Attribute o m apos) [] [] pos) X.env = (do
      let ov ← eval o X.env
      standAt apos.atName
      let (f, first) ← holding [ov] (getMethod ov m pl)
      callWith pos f first (backTo pos (starEach [] X.env)) (backToKw pos (keywordEach [] X.env))) := by rfl) :
    PE X (.Call (.Attribute o m apos) [] [] pos) (tSta C sp dvs E ta) := by
  refine ⟨fun pins s σ H Q I h => ?_⟩
  refine PySem.W.methodCall_KW (pl := pl) (thn (he.run pins s σ H _ I h) fun u s1 ⟨x, H1, I1, rx, ex, q⟩ => ?_) ht
  subst ex
  obtain rfl : u = Value.ref C := rx
  obtain ⟨rest, hp⟩ := c.rc
  refine PySem.W.method_cls I1.kIn r.ga (PySem.W.cls_bind I1.kIn r.rd c.at_ (wpAny_call (PySem.W.sm_get (s := { s1 with toks := s1.toks + 1 }) I1.kIn hp (PySem.W.handed_on rfl ?_))))
  have I2 : Inv X pins σ H1 { s1 with toks := s1.toks + 1 } := I1.tok _
  exact PySem.W.callWith_K0 (first := []) I2.kIn hk (run_fn (us := []) (vs := []) F hr hb hd hx I2 .nil q)
end
end RS

set_option maxRecDepth 100000
set_option maxHeartbeats 2000000
/-! in a def called inside an except suite: for over a list, over a tuple; the caught error as an argument -/
namespace RH
open PySem PySem.Spec PyProof.Rows L2 HotX L2H
section
variable {prog : Program} {w : World} {A : Around} {E : Value → Shared → Prop} {s : Shared}
theorem list_end_hot {it l x1 : Addr} {i : Nat} {items : Array Value} {Q : Option Value → Shared → Prop} (hot : HotAt A x1 s.heap)
    (hit : s.heap.IsListIter it l i) (hl : s.heap.IsList l items) (hx : items[i]? = none)
    (hQ : ∀ h', Heap.ExtBut it s.heap h' → Q none { s with heap := h' }) : wpAny (model prog w) A (pyNext (.ref it)) Q E s := by
  obtain ⟨o, ho, hc, hd⟩ := id hit
  obtain ⟨ol, hol, _, nl, hdl⟩ := hl
  obtain ⟨hh, o1, vs1, h1, d1, c1⟩ := hot
  have hne : x1 ≠ it := fun e => by
    subst e
    rw [h1] at ho; cases ho
    rw [d1] at hd; cases hd
    cases c1
  unfold pyNext
  refine wpAny_bind (wpAny_attempt (wpAny_callSpecial?_slot (name := Str.ofString "__next__") hit.typeIs slot_listiter_next
    (wpAny_call_entry slot_listiter_next hit.typeIs entry_listiter_next ?_ (args_listiter_next _))))
  show wpAny _ _ (field (.ref it) 0 >>= _) _ _ s
  refine wpAny_bind (wpAny_field ho hd (x := .ref l) rfl ?_)
  show wpAny _ _ (if (Value.ref l == Value.none) = true then _ else _) _ _ s
  rw [if_neg (show ¬ ((Value.ref l == Value.none) = true) from Bool.false_ne_true)]
  show wpAny _ _ (field (.ref it) 1 >>= _) _ _ s
  refine wpAny_bind (wpAny_field ho hd (x := .int i 0) rfl ?_)
  show wpAny _ _ (seqItems? (.ref l) >>= _) _ _ s
  refine wpAny_bind (wpAny_seqItems hol hdl ?_)
  simp only [Int.toNat_natCast, hx]
  refine wpAny_bind (wpAny_rule (wpAny_bind (wpAny_setField ho hd (by simp) ?_)))
  show wpAny _ _ (newExc (.type "StopIteration") [] >>= _) _ _ _
  refine wpAny_bind ?_
  simp only [newExc, newTuple]
  refine wpAny_bind (wpAny_newObj_type ?_ (by size_fits))
  refine wpAny_bind (m := firstArgMember _ _) (wpAny_of_eq (a := Value.none) (by first | rfl | (simp only [firstArgMember]; rfl)) ?_)
  refine wpAny_newObj_type ?_ (by size_fits)
  refine raiseNew_hot ⟨hh, o1, vs1, Heap.get?_push_of_some _ (Heap.get?_push_of_some _ ((Heap.get?_update_other _ _ (Ne.symm hne)).trans h1)), d1, c1⟩ (Nat.ne_of_lt (Heap.lt_size (Heap.get?_push_of_some _ ((Heap.get?_update_other _ _ (Ne.symm hne)).trans h1)))) (Heap.get?_push_size _ rfl) rfl (by first | (simp; done) | (simp; omega) | (simp only [Array.size_append]; simp; omega)) ?_
  refine wpAny_bind (wpAny_isInstance (T := "StopIteration") (b := true) ⟨_, Heap.get?_update_self _ (Heap.get?_push_size _ rfl) rfl, rfl⟩ isSubtype_stop ?_)
  refine wpAny_pure (hQ _ fun b o' hb e => ?_)
  refine (Heap.get?_update_other _ _ ?_).trans ((((Heap.SameBut.update ..).extBut.push _).push _) b o' hb e)
  exact Nat.ne_of_gt (Heap.lt_size (((Heap.SameBut.update ..).extBut.push _) b o' hb e))
theorem tuple_end_hot {it t x1 : Addr} {i : Nat} {items : Array Value} {Q : Option Value → Shared → Prop} (hot : HotAt A x1 s.heap)
    (hit : s.heap.IsTupleIter it t i) (ht : s.heap.IsTuple t items) (hx : items[i]? = none)
    (hQ : ∀ h', Heap.ExtBut it s.heap h' → Q none { s with heap := h' }) : wpAny (model prog w) A (pyNext (.ref it)) Q E s := by
  obtain ⟨o, ho, hc, hd⟩ := id hit
  obtain ⟨ol, hol, _, nl, hdl⟩ := ht
  obtain ⟨hh, o1, vs1, h1, d1, c1⟩ := hot
  have hne : x1 ≠ it := fun e => by
    subst e
    rw [h1] at ho; cases ho
    rw [d1] at hd; cases hd
    cases c1
  unfold pyNext
  refine wpAny_bind (wpAny_attempt (wpAny_callSpecial?_slot (name := Str.ofString "__next__") hit.typeIs F.slot_tuple_iterator_next
    (wpAny_call_entry F.slot_tuple_iterator_next hit.typeIs F.entry_tuple_iterator_next ?_ (F.args_tuple_iterator_next_1 _))))
  show wpAny _ _ (field (.ref it) 0 >>= _) _ _ s
  refine wpAny_bind (wpAny_field ho hd (x := .ref t) rfl ?_)
  show wpAny _ _ (if (Value.ref t == Value.none) = true then _ else _) _ _ s
  rw [if_neg (show ¬ ((Value.ref t == Value.none) = true) from Bool.false_ne_true)]
  show wpAny _ _ (field (.ref it) 1 >>= _) _ _ s
  refine wpAny_bind (wpAny_field ho hd (x := .int i 0) rfl ?_)
  show wpAny _ _ (seqItems? (.ref t) >>= _) _ _ s
  refine wpAny_bind (wpAny_seqItems hol hdl ?_)
  simp only [Int.toNat_natCast, hx]
  refine wpAny_bind (wpAny_rule (wpAny_bind (wpAny_setField ho hd (by simp) ?_)))
  show wpAny _ _ (newExc (.type "StopIteration") [] >>= _) _ _ _
  refine wpAny_bind ?_
  simp only [newExc, newTuple]
  refine wpAny_bind (wpAny_newObj_type ?_ (by size_fits))
  refine wpAny_bind (m := firstArgMember _ _) (wpAny_of_eq (a := Value.none) (by first | rfl | (simp only [firstArgMember]; rfl)) ?_)
  refine wpAny_newObj_type ?_ (by size_fits)
  refine raiseNew_hot ⟨hh, o1, vs1, Heap.get?_push_of_some _ (Heap.get?_push_of_some _ ((Heap.get?_update_other _ _ (Ne.symm hne)).trans h1)), d1, c1⟩ (Nat.ne_of_lt (Heap.lt_size (Heap.get?_push_of_some _ ((Heap.get?_update_other _ _ (Ne.symm hne)).trans h1)))) (Heap.get?_push_size _ rfl) rfl (by first | (simp; done) | (simp; omega) | (simp only [Array.size_append]; simp; omega)) ?_
  refine wpAny_bind (wpAny_isInstance (T := "StopIteration") (b := true) ⟨_, Heap.get?_update_self _ (Heap.get?_push_size _ rfl) rfl, rfl⟩ isSubtype_stop ?_)
  refine wpAny_pure (hQ _ fun b o' hb e => ?_)
  refine (Heap.get?_update_other _ _ ?_).trans ((((Heap.SameBut.update ..).extBut.push _).push _) b o' hb e)
  exact Nat.ne_of_gt (Heap.lt_size (((Heap.SameBut.update ..).extBut.push _) b o' hb e))
end
theorem turn_listH {P : Program} {w : World} {K : PySem.W.Frag} {tg : Expr} (a it : Addr) : TurnH P w K tg (Itl K a) [it] it (fun i h => h.IsListIter it a i) where
  mem := by simp
  obj := fun i h st b hb => by
    have e : b = it := by simpa using hb
    subst e
    obtain ⟨o, e, c, d⟩ := st
    exact ⟨o, e, fun v z => by rw [d] at z; cases z⟩
  keep := fun i h h' st k => st.at fun o e => k it (by simp) o e
  item := by
    intro X hP hw hK hc i pins s σ H E I hf st hg
    subst hP hw hK
    obtain ⟨xs, x, hq, hx⟩ := hg
    obtain ⟨its, rv, p, hz⟩ := I.list hq
    obtain ⟨u, hu, ru⟩ := rv.get hx
    obtain ⟨f0, f1, f2, f3, f4, f5⟩ := hf it (by simp)
    refine wpAny_pyNext_list_item st p.isList (x := u) (by simpa using hu) fun h' st' sb => ?_
    have I1 : Inv X pins σ H { s with heap := h' } := I.turned (t' := s.toks) (fun b o hb e => (sb.2 b hb).trans e) f0 f1 f3 f4 f5
    obtain ⟨o, e, c, d⟩ := id st'
    exact ⟨u, rfl, go_of (s := { s with heap := h' }) e c d (by decide) ⟨x, H, I1, ru, ⟨rfl, fun ys hy => by rw [I.list_inj hy hq]; exact hx⟩, st', fun b hb => (hf b hb).1⟩⟩
  done := by
    intro X hP hw hK hc i pins s σ H E I hf st hg
    subst hP hw hK
    obtain ⟨xs, hq, hx⟩ := hg
    obtain ⟨its, rv, p, hz⟩ := I.list hq
    obtain ⟨f0, f1, f2, f3, f4, f5⟩ := hf it (by simp)
    have hl := rv.length
    obtain ⟨x1, hot⟩ := hc.at I
    exact list_end_hot hot st p.isList (by simp; omega) fun h' eb => ⟨rfl, I.turned (t' := s.toks) (fun b o hb e => eb b o hb e) f0 f1 f3 f4 f5⟩
  self := fun _ _ _ _ _ st h => wpAny_pyIter_listiter st h
theorem turn_tupleH {P : Program} {w : World} {K : PySem.W.Frag} {tg : Expr} (a it : Addr) : TurnH P w K tg (Itt K a) [it] it (fun i h => h.IsTupleIter it a i) where
  mem := by simp
  obj := fun i h st b hb => by
    have e : b = it := by simpa using hb
    subst e
    obtain ⟨o, e, c, d⟩ := st
    exact ⟨o, e, fun v z => by rw [d] at z; cases z⟩
  keep := fun i h h' st k => st.at fun o e => k it (by simp) o e
  item := by
    intro X hP hw hK hc i pins s σ H E I hf st hg
    subst hP hw hK
    obtain ⟨xs, x, hq, hx⟩ := hg
    obtain ⟨its, rv, p, hz⟩ := I.tuple hq
    obtain ⟨u, hu, ru⟩ := rv.get hx
    obtain ⟨f0, f1, f2, f3, f4, f5⟩ := hf it (by simp)
    refine wpAny_pyNext_tuple_item st (show s.heap.IsTuple a its.toArray from p) (x := u) (by simpa using hu) fun h' st' sb => ?_
    have I1 : Inv X pins σ H { s with heap := h' } := I.turned (t' := s.toks) (fun b o hb e => (sb.2 b hb).trans e) f0 f1 f3 f4 f5
    obtain ⟨o, e, c, d⟩ := id st'
    exact ⟨u, rfl, go_of (s := { s with heap := h' }) e c d (by decide) ⟨x, H, I1, ru, ⟨rfl, fun ys hy => by rw [I.tuple_inj hy hq]; exact hx⟩, st', fun b hb => (hf b hb).1⟩⟩
  done := by
    intro X hP hw hK hc i pins s σ H E I hf st hg
    subst hP hw hK
    obtain ⟨xs, hq, hx⟩ := hg
    obtain ⟨its, rv, p, hz⟩ := I.tuple hq
    obtain ⟨f0, f1, f2, f3, f4, f5⟩ := hf it (by simp)
    have hl := rv.length
    obtain ⟨x1, hot⟩ := hc.at I
    exact tuple_end_hot hot st (show s.heap.IsTuple a its.toArray from p) (by simp; omega) fun h' eb => ⟨rfl, I.turned (t' := s.toks) (fun b o hb e => eb b o hb e) f0 f1 f3 f4 f5⟩
  self := fun _ _ _ _ _ st h => wpAny_pyIter_tupleiter st h
section
variable {X : Cx} {tg : Expr}
theorem pi_listH {l : Expr} {tl : TE} (hl : PE X l tl) : PIH X tg l (iList X.K tl) := by
  refine ⟨fun pins s σ H R I h => ?_⟩
  refine thn (hl.run pins s σ H _ I h) fun v s1 ⟨x, H1, I1, r1, q1⟩ => ?_
  obtain ⟨a, e, ⟨xs, hq⟩, q⟩ := q1
  subst e
  cases r1
  obtain ⟨its, rv, p, hz⟩ := I1.list hq
  refine wpAny_pyIter_list p.isList ?_
  refine ⟨s1.heap.objs.size, [s1.heap.objs.size], _, _, H1, rfl, I1.kept (t' := s1.toks) fun b o e => Heap.get?_push_of_some _ e, turn_listH a _, ⟨_, Heap.get?_push_size _ rfl, rfl, rfl⟩, fun b hb => ?_, q⟩
  have e : b = s1.heap.objs.size := by simpa using hb
  subst e
  exact I1.fpOk (Nat.le_refl _) (I1.hok.fresh (Nat.le_refl _))
theorem pi_tupH {l : Expr} {tl : TE} (hl : PE X l tl) : PIH X tg l (iTup X.K tl) := by
  refine ⟨fun pins s σ H R I h => ?_⟩
  refine thn (hl.run pins s σ H _ I h) fun v s1 ⟨x, H1, I1, r1, q1⟩ => ?_
  obtain ⟨a, e, ⟨xs, hq⟩, q⟩ := q1
  subst e
  cases r1
  obtain ⟨its, rv, p, hz⟩ := I1.tuple hq
  refine wpAny_pyIter_tuple (show s1.heap.IsTuple a its.toArray from p) ?_
  refine ⟨s1.heap.objs.size, [s1.heap.objs.size], _, _, H1, rfl, I1.kept (t' := s1.toks) fun b o e => Heap.get?_push_of_some _ e, turn_tupleH a _, ⟨_, Heap.get?_push_size _ rfl, rfl, rfl⟩, fun b hb => ?_, q⟩
  have e : b = s1.heap.objs.size := by simpa using hb
  subst e
  exact I1.fpOk (Nat.le_refl _) (I1.hok.fresh (Nat.le_refl _))
end
end RH

set_option maxRecDepth 100000
set_option maxHeartbeats 2000000
/-! a def called inside an except suite with the caught error as an argument: its class, its fields -/
namespace RH
section
open PySem PySem.Spec PyProof.Rows L2 PySem.W PySem.Calls
/-! isinstance of a caught error whose own dict stands -/
section
variable {prog : Program} {w : World} {A : Around} {E : Value → Shared → Prop} {s : Shared} {K : Frag} {x D : Addr} {ox : Obj} {od : Option Obj}
theorem find_cls (hc : (clsIn K D).isSome = true) (C : L2.ExcC K D) : findObj K D od "__class__" = some (.bind (.builtin "getset_descriptor.__get__") (.builtin "object.__class__")) := by
  obtain ⟨cd, e⟩ := Option.isSome_iff_exists.mp hc
  unfold findObj
  rw [e, Option.bind_some, C.ha, Option.bind_some]; simp [C.hn, C.ht]
theorem ask_cls {Q : Option Value → Shared → Prop} (C : L2.ExcC K D) (X : K.In s.heap) (I : InstAt s.heap x ox D od) (h : Q (some (.ref D)) { s with toks := s.toks + 1 }) :
    wpAny (model prog w) A (getAttr? (.ref x) "__class__") Q E s := by
  have hf := find_cls (od := od) (by obtain ⟨c0, e0, _⟩ := any_some C.hd; rw [e0]; rfl) C
  obtain ⟨hp, g, dr, tk, os⟩ := s
  have A0 := I.type (M := model prog w); have A1 := looks_findIn (M := model prog w) X C.hg; have A2 := looks_findIn (M := model prog w) X C.hk
  have A3 := looks_find (M := model prog w) X I hf; have A4 : Looks (model prog w) hp (isInstance (.ref x) (.type "BaseException")) true := A0.andThen (looks_subIn X C.hs)
  have b0 : (false && onTheHeap (Value.builtin "BaseException.__getattribute__")) = false := rfl
  have b2 : (Value.builtin "BaseException.__getattribute__" == Value.builtin "object.__getattribute__") = false := by decide +kernel
  have b1 : (onTheHeap (Value.ref D) && Value.builtin "BaseException.__getattribute__" == Value.builtin "object.__getattribute__") = false := by rw [b2]; rfl
  unfold getAttr? getAttrBy? getAttrBy
  refine wpAny_bind (wpAny_mkText (wpAny_bind (wpAny_attempt (wpAny_holding (wpAny_bind (A0.at (wpAny_bind (A1.at ?_))))))))
  show wpAny _ _ (if (onTheHeap (Value.ref D) && Value.builtin "BaseException.__getattribute__" == Value.builtin "object.__getattribute__") = true then _ else _) _ _ _
  rw [b1, if_neg Bool.false_ne_true]; unfold getAttrByItsOwn hookBefore
  refine wpAny_bind ?_; rw [if_pos (show onTheHeap (Value.ref D) = true from rfl)]; refine A2.at ?_
  refine wpAny_bind (wpAny_attempt (wpAny_holding ?_)); unfold callGetattribute; rw [b0, if_neg Bool.false_ne_true]; unfold boundAndCalled
  rw [PySem.F.excAttr_ValueError.ga.bind (.ref x)]; refine wpAny_bind (wpAny_pure ?_)
  show wpAny _ _ (call (.builtin "BaseException.__getattribute__") [.ref x, .str "__class__" tk]) _ _ _
  refine wpAny_call (codeAny_call_builtin PySem.F.excAttr_ValueError.ga.plain PySem.F.entry_bexc_ga ?_)
  refine @check_slot (model prog w) _ _ ⟨hp, g, dr, tk + 1, os⟩ "BaseException.__getattribute__" "BaseException" "__getattribute__" (.ref x) [.str "__class__" tk] [] _ (by decide +kernel) (by decide +kernel) A4 (PySem.F.args_bexc_ga (.ref x) (.str "__class__" tk)) ?_
  unfold Builtin.«object.__getattribute__»; refine wpAny_bind (wpAny_of_eq (a := ((Value.ref x : Value), [Value.str "__class__" tk])) (by first | rfl | (simp only [slotArgs]; rfl)) ?_)
  refine wpAny_bind (wpAny_pure (wpAny_bind (A0.at (wpAny_bind (A3.at ?_)))))
  show wpAny _ _ (holding [Value.builtin "object.__class__"] (call (.builtin "getset_descriptor.__get__") [.builtin "object.__class__", .ref x, .ref D]) >>= ret) _ _ _
  refine wpAny_bind (wpAny_holding (wpAny_call (class_get (s := ⟨hp, g, dr, tk + 1, os⟩) (ox := ox) (od := od) X I C.hm ?_))); refine wpAny_pure ?_
  show wpAny _ _ (handedOut (.ref D)) _ _ _; rw [handedOut_of (v := .ref D) rfl]
  first | exact wpAny_pure (wpAny_pure h) | exact wpAny_pure h | exact wpAny_pure (wpAny_bind (wpAny_pure (wpAny_pure h)))
theorem kit_err (C : L2.ExcC K D) : KitX K (.ref x) (.ref D) (fun h => InstAt h x ox D od) := by
  obtain ⟨cd, hc, _⟩ := any_some C.hd
  refine ⟨fun _ _ _ I => I.type, fun M h X _ => ?_, fun h tp dd its n sl X htp => ?_, fun X I k => ask_cls C X I k⟩
  · unfold clsIn at hc
    split at hc
    · rename_i o1 o2 o3 o4 ho
      intro A' Q' E' s' k q; unfold isType loadHead; exact wpAny_bind (wpAny_loadPart (k _ _ (X _ _ ho)) (wpAny_pure q))
    · cases hc
  · refine Bool.eq_false_iff.mpr fun q => ?_
    have e : D = tp := Value.ref.inj (beq_iff_eq.mp q); subst e
    unfold clsIn at hc
    split at hc
    · rename_i o1 o2 o3 o4 ho
      have z := (X _ _ ho).symm.trans htp; cases z
    · cases hc
end
end
open PySem PySem.Spec PyProof.Rows L2 HotX L2H
structure FnE (P : Program) (w : World) (K : PySem.W.Frag) (mg : Str → Option Value) (base : Heap) (CX : CXT) (k : Nat) (f : Addr) (fd : FuncData) (ps : List Str) (sp : Addr × Obj → Sp) : Prop where
  len : ∀ p vs H Q E, sp p vs H Q E → vs.length = ps.length
  run : ∀ (A : Around) (outer : List Env) (s : Shared) (H : Hp) (args : Args) (us : List Value) (vs : List V) (Q : VK) (E : XK) (p : Addr × Obj), RoomH k A → Hot1 A p → PinOk outer H s p → Env0 P w K mg base A outer s H → BindsTo s fd args (ps.zip us) → Vals vs us → sp p vs H Q E →
    codeAny (model P w) A (.call (.ref f) args) (CR CX outer P w H s Q E) s
theorem fn_ofE {CX : CXT} {P : Program} {w : World} {K : PySem.W.Frag} {mg : Str → Option Value} {base : Heap} {k : Nat} {f : Addr} {name qual : Str} {params : Arguments} {body : List Stmt} {scope : Scope} {dV kV doc pm cdv ct oc : Value} {an od : Option Addr}
    {osl : Array (Option Value)} {N ps : List Str} {sp : Addr × Obj → Sp} (lk : K.lookup f = some ⟨oc, od, .func (PySem.W.fnOf name qual params body scope dV kV doc pm an cdv ct), osl⟩) (hcd : PySem.W.codeIn K cdv qual = true) (S : FnScope N ps scope)
    (len : ∀ p vs H Q E, sp p vs H Q E → vs.length = ps.length)
    (hbody : ∀ (A : Around) (outer : List Env) (s : Shared) (H : Hp) (vs : List V) (Q : VK) (E : XK) (p : Addr × Obj), Hot1 A p → RoomH k (A.deeper (envOfC qual scope s.heap.objs.size f cdv)) → sp p vs H Q E →
      ∃ t, PSs (cxH CX P w K mg base N qual scope f cdv A outer s H E p) body t ∧ t { nx := fun _ H' => Q .non H', rt := Q } (L2.start N vs) H) :
    FnE P w K mg base CX (k + 1) f (PySem.W.fnOf name qual params body scope dV kV doc pm an cdv ct) ps sp := by
  refine ⟨len, fun A outer s H args us vs Q E p hr hot hpin e0 hb r hsp => ?_⟩
  have hl := len _ _ _ _ _ hsp
  have KX : K.In s.heap := e0.mod.kin.keeps fun b o e => (e0.bs b o e).1
  have lim : s.heap.NoLimit := e0.mod.nolimit.keeps fun b o e => (e0.bs b o e).1
  have hkind : ∀ y ∈ ps.zip us, scope.names.lookup y.1 = some .local ∨ (scope.names.lookup y.1 = some .cell ∧ ((cellsFrom (s.heap.objs.size + 1) scope.names []).lookup y.1).isSome = true) := fun ⟨n, v⟩ hy => by
    rcases S.par n (List.of_mem_zip hy).1 with q | q
    · exact .inl q
    · exact .inr ⟨q, PySem.W.cellsFrom_some _ _ _ (.inl q)⟩
  refine codeAny_call_function hr.depth (KX _ _ lk) rfl S.co S.gen rfl (PySem.W.codeRec_of KX hcd) (hb _ _ _ _ ?_)
  refine wpAny_newFunctionEnv_cells S.kind hkind fun env he s1 x => ?_
  subst he
  refine ⟨lim.keeps x.toInCall.keep, codeAny_func ?_⟩
  obtain ⟨t, ht, hq⟩ := hbody A outer s H vs Q E p hot (hr.deeper _) hsp
  have I : Inv (cxH CX P w K mg base N qual scope f cdv A outer s H E p) [] (L2.start N vs) H s1 := inv_startH S hpin e0 hl r x
  refine wpAny_mono (ht.run [] s1 (L2.start N vs) H _ I hq) (fun fl s' hs => ?_) fun e s' hs => hs
  have fin : ∀ {σ' : L2.St} {H' : Hp} {v : V} {u : Value}, Inv (cxH CX P w K mg base N qual scope f cdv A outer s H E p) [] σ' H' s' → RelV v u → Q v H' → CE outer P w H s Q u s' :=
    fun {σ' H' v u} J rv q => ⟨v, H', J.os, J.bare, J.base, J.hok, rv, q⟩
  cases fl with
  | ret u =>
    obtain ⟨v, σ', H', J, rv, q⟩ := hs
    exact fin J rv q
  | next =>
    obtain ⟨σ', H', J, q⟩ := hs
    exact fin (v := V.non) (u := Value.none) J rfl q
  | brk =>
    obtain ⟨_, _, _, q⟩ := hs
    exact False.elim q
  | cont =>
    obtain ⟨_, _, _, q⟩ := hs
    exact False.elim q

section
variable {X : Cx} {CX : CXT} {k : Nat} {f C : Addr} {fd : FuncData} {ps : List Str} {sp : Addr × Obj → Sp} {E : L2.St → XK} {x m : Str} {q pos apos : Pos} {e o : Expr} {es : List Expr} {ta : TE} {t : TA} {p : Addr × Obj}
theorem run_fnE {pins : List (Addr × Obj)} {σ : L2.St} {H : Hp} {s : Shared} {Q : VK} {us : List Value} {vs : List V} (F : FnE X.prog X.w X.K X.mg X.base CX k f fd ps sp) (hr : RoomH k X.A) (hot : Hot1 X.A p) (hp : p ∈ X.pn) (hb : Binds X.K fd ps []) (hx : PassesAt CX X σ (E σ))
    (I : Inv X pins σ H s) (r : Vals vs us) (h : sp p vs H Q (E σ)) : wpAny (model X.prog X.w) X.A (call (.ref f) us) (EP X pins σ Q) X.xe s := by
  have hl : us.length = ps.length := by rw [← r.length]; exact F.len _ _ _ _ _ h
  have b := hb s us I.kIn (by rw [List.append_nil]; exact hl)
  rw [List.append_nil] at b
  have P1 := I.pin p (List.mem_append_left _ hp)
  have hpin : PinOk X.stack H s p := ⟨P1.1, P1.2.1, fun hm => (List.mem_cons.mp (I.stkSub p.1 hm)).elim P1.2.2.1 P1.2.2.2.1, P1.2.2.2.2⟩
  refine wpAny_call (codeAny_mono (F.run X.A X.stack s H ⟨us, []⟩ us vs Q (E σ) p hr hot hpin I.env0 b r h) fun r s' hq => ?_)
  cases r with
  | error e => exact hx pins H s e s' I hq
  | ok fl =>
    cases fl with
    | ret u => exact I.after hq
    | next => exact False.elim hq
    | brk => exact False.elim hq
    | cont => exact False.elim hq
theorem pe_callE (F : FnE X.prog X.w X.K X.mg X.base CX k f fd ps sp) (hr : RoomH k X.A) (hot : Hot1 X.A p) (hp : p ∈ X.pn) (hg : Gl X x) (hm : X.mg x = some (.ref f)) (hk : PySem.W.keepIn X.K (.ref f) = true) (hb : Binds X.K fd ps []) (hx : ∀ σ, PassesAt CX X σ (E σ))
    (ha : PA X (e :: es) t) (hdb : (x == ("__debug__" : Str)) = false := by decide) (he : starEach (e :: es) X.env = (false, eval e X.env) :: starEach es X.env := by rfl) (hpl : (backTo pos (starEach es X.env)).any (·.1) = false := by rfl) :
    PE X (.Call (.Name x q) (e :: es) [] pos) (tCallS (sp p) E t) := by
  refine ⟨fun pins s σ H Q I h => ?_⟩
  refine wpAny_Call_Name_kw (ld_glob I hg hm ?_ hdb)
  refine PySem.W.callWith_K (h₀ := X.base) I.ok.mod.kin hk (thn (ha.run pos pins s σ H _ I h) fun us s1 ⟨vs, H1, I1, r, q⟩ => ⟨I1.kIn, ?_⟩) he hpl
  exact run_fnE F hr hot hp hb (hx σ) I1 r q
end
/-- such a def -/
theorem okE {P : Program} {w : World} {K : PySem.W.Frag} {mg : Str → Option Value} {base : Heap} {x qual : Str} {st : Stmt} {f : Addr} {fd : FuncData} {N ps : List Str} {k : Nat} {sp : Addr × Obj → Sp} (F : Fun K x qual st f fd) (S : FnScope N ps (defScope st)) (hl : ∀ p vs H Q E, sp p vs H Q E → vs.length = ps.length)
    (hb : ∀ (cdv : Value) (A : Around) (outer : List Env) (s : Shared) (H : Hp) (vs : List V) (Q : VK) (E : XK) (p : Addr × Obj), Hot1 A p → RoomH k (A.deeper (envOfC qual (defScope st) s.heap.objs.size f cdv)) → sp p vs H Q E →
      ∃ u, PSs (cxH CX0 P w K mg base N qual (defScope st) f cdv A outer s H E p) (defBody st) u ∧ u { nx := fun _ G => Q .non G, rt := Q } (L2.start N vs) H) : FnE P w K mg base CX0 (k + 1) f fd ps sp := by
  obtain ⟨c1, c2, c3, c4, c5, c6, c7, c8, c9, rfl, lk, hcd⟩ := F.ex
  exact fn_ofE lk hcd S hl fun A outer s H vs Q E p hot hr hsp => hb c7 A outer s H vs Q E p hot hr hsp
theorem FnE.hot {P : Program} {w : World} {K : PySem.W.Frag} {mg : Str → Option Value} {base : Heap} {CX : CXT} {k : Nat} {f : Addr} {fd : FuncData} {ps : List Str} {sp : Sp} (F : FnE P w K mg base CX k f fd ps (fun _ => sp)) : FnH P w K mg base CX k f fd ps sp :=
  ⟨fun vs H Q E h => F.len (0, ⟨.none, none, .cell none, #[]⟩) vs H Q E h, fun A outer s H args us vs Q E p => F.run A outer s H args us vs Q E p⟩
/-- isinstance(e, c), e the handled error at p -/
def rIsP (K : PySem.W.Frag) (p : Addr × Obj) : List V → Hp → VK → Prop := fun xs H Q => ∃ (D : Addr) (c : V) (cv : Value) (b : Bool) (dd : Addr) (fs : List (Str × V)),
  ExcC K D ∧ Zc (.ref D) (some dd) p.2 ∧ xs = [.ref p.1, c] ∧ (∀ u, RelV c u → u = cv) ∧ PySem.W.kitOne K (.ref D) cv = some b ∧ H dd = some (.xd fs) ∧ Q (.bl b) H
theorem call_isP {X : Cx} {p : Addr × Obj} (hp : p ∈ X.pn) (hot : Hot1 X.A p) : CallR X (.builtin "isinstance") (rIsP X.K p) := by
  intro pins s σ H xs us Q I r h
  obtain ⟨D, c, cv, b, dd, fs, C, hz, rfl, hcv, e, ea, q⟩ := h
  obtain ⟨a, oe⟩ := p
  obtain ⟨u1, u2, rfl, r1, r2⟩ := vals2 r
  obtain rfl : u1 = Value.ref a := r1
  have ec := hcv _ r2; subst ec
  obtain ⟨hget, _⟩ := I.pin (a, oe) (List.mem_append_left _ hp)
  obtain ⟨_, vs, hv, _⟩ := hot
  have hx : ObjOk X.prog X.w H s.heap dd (.xd fs) := I.hok dd _ ea
  obtain ⟨mA, hns, hr⟩ := hx
  obtain ⟨od, ho, hl⟩ := lookIn_ns hns
  have J : PySem.W.InstAt s.heap a oe D (some od) := ⟨hget, hz.1, by unfold PySem.W.notCls; rw [show oe.data = _ from hv] <;> rfl, by rw [hz.2]; exact ho⟩
  exact PySem.W.kia_one (kit_err C) I.kIn J e (fun z => nomatch z) fun tk => ⟨.bl b, H, I.kept (t' := tk) fun _ _ z => z, rfl, q⟩
/-- e.f, e the handled error at p -/
def tXp (K : PySem.W.Frag) (p : Addr × Obj) (f : Str) (te : TE) : TE := fun σ H Q => te σ H fun x H1 => x = .ref p.1 ∧ ∃ (C dd : Addr) (fs : List (Str × V)) (v : V), XfC K C ∧ PySem.W.findIn K (.ref C) f = some none ∧ Zc (.ref C) (some dd) p.2 ∧ H1 dd = some (.xd fs) ∧ fs.lookup f = some v ∧ Q v H1
theorem pe_xp {X : Cx} {p : Addr × Obj} {e : Expr} {te : TE} {pos : Pos} {n : Str} (hp : p ∈ X.pn) (hot : Hot1 X.A p) (he : PE X e te) (hb : attributeBase e n X.env (eval e X.env) = eval e X.env := by rfl) : PE X (.Attribute e n pos) (tXp X.K p n te) := by
  refine ⟨fun pins s σ H Q I h => ?_⟩
  refine attr_of hb (thn (he.run pins s σ H _ I h) fun u s1 hh => ?_)
  obtain ⟨x, H1, I1, rx, ex, C, dd, fs, v, T, hno, hz, ea, l, q⟩ := hh
  obtain ⟨a, oe⟩ := p
  subst ex
  obtain rfl : u = Value.ref a := rx
  obtain ⟨ha, _⟩ := I1.pin (a, oe) (List.mem_append_left _ hp)
  obtain ⟨_, vs, hd, _⟩ := hot
  have hx : ObjOk X.prog X.w H1 s1.heap dd (.xd fs) := I1.hok dd _ ea
  obtain ⟨mA, hns, hr⟩ := hx
  obtain ⟨od, ho, hl⟩ := lookIn_ns hns
  obtain ⟨u, hu, ru⟩ := RelO.some_of (v := v) (o := mA n) (by rw [← l]; exact hr n)
  have J : PySem.W.InstAt s1.heap a oe C (some od) := ⟨ha, hz.1, by unfold PySem.W.notCls; rw [show oe.data = _ from hd] <;> rfl, by rw [hz.2]; exact ho⟩
  exact HandSPX.exc_get I1.kIn J T.ga T.gg T.exC (PySem.W.findObj_own T.hdC hno rfl (by rw [hl, hu])) (handed_of ru) ⟨v, H1, I1.tok _, ru, q⟩
end RH

set_option maxRecDepth 100000
set_option maxHeartbeats 2000000
/-! text * int: its length, its signs -/
namespace RM
open PySem PySem.Spec PyProof.Rows L2
theorem rep_size (z : Array Nat) : ∀ (k : Nat) (acc : Array Nat), ((List.replicate k z).foldl (fun x1 x2 => x1 ++ x2) acc).size = acc.size + k * z.size
  | 0, acc => by simp
  | k + 1, acc => by
    rw [List.replicate_succ, List.foldl_cons, rep_size z k (acc ++ z), Array.size_append, Nat.succ_mul]; omega
theorem rep_mem (z : Array Nat) : ∀ (k : Nat) (acc : Array Nat) (c : Nat), c ∈ ((List.replicate k z).foldl (fun x1 x2 => x1 ++ x2) acc).toList → c ∈ acc.toList ∨ c ∈ z.toList
  | 0, acc, c, h => .inl (by simpa using h)
  | k + 1, acc, c, h => by
    rw [List.replicate_succ, List.foldl_cons] at h
    rcases rep_mem z k (acc ++ z) c h with h | h
    · rw [Array.toList_append, List.mem_append] at h; exact h
    · exact .inr h
def rMulS : R2 := fun x y H Q => ∃ (z : Str) (n : Nat), x = .str z ∧ y = .int (n : Int) ∧ 2 ≤ n ∧ n ≤ 1000 ∧ 1 ≤ z.length ∧ z.length ≤ 1000 ∧ ∀ z' : Str, z'.length = n * z.length → (∀ c ∈ z'.cps.toList, c ∈ z.cps.toList) → Q (.str z') H
theorem op_mulS {X : Cx} : OpR X (binaryOp .Mult) rMulS := by
  intro pins s σ H x y v u Q I rx ry h
  obtain ⟨z, n, rfl, rfl, h2, h3, h4, h5, q⟩ := h
  obtain ⟨t, rfl⟩ := rx
  obtain ⟨t', rfl⟩ := ry
  have hm : z.length * n ≤ 1000 * 1000 := Nat.mul_le_mul h5 h3
  have hone : ((n : Int) == 1 || z.length == 0) = false := by
    rw [Bool.or_eq_false_iff]; exact ⟨beq_eq_false_iff_ne.mpr (by omega), beq_eq_false_iff_ne.mpr (by omega)⟩
  refine PySem.P.mul_str ?_ (fun _ _ => ?_) (fun _ _ => ?_) ?_
  · rw [Bool.or_eq_false_iff]; exact ⟨decide_eq_false (by omega), decide_eq_false (by omega)⟩
  · intro hgt
    have h7 : (2 ^ 63 - 1 : Int) / (n : Int) ≥ 1000 := by
      refine (Int.le_ediv_iff_mul_le (by omega)).mpr ?_
      omega
    omega
  · show decide (z.length * (n : Int).toNat > sizeLine) = false
    refine decide_eq_false ?_
    rw [Int.toNat_natCast, sizeLine_eq]; omega
  · rw [if_neg (by omega), if_neg (by rw [hone]; exact Bool.false_ne_true), Int.toNat_natCast]
    have hs : (List.foldl (· ++ ·) #[] (List.replicate n z.cps)).size = n * z.length := by
      have e := rep_size z.cps n #[]
      rw [e]; simp [Str.length]
    refine ⟨?_, ⟨.str _, H, I.tok _, ⟨_, rfl⟩, q _ hs fun c hc => ?_⟩⟩
    · rw [sizeLine_eq]
      show (List.foldl (· ++ ·) #[] (List.replicate n z.cps)).size ≤ _
      rw [hs, Nat.mul_comm]; omega
    · rcases rep_mem z.cps n #[] c hc with h | h
      · cases h
      · exact h
end RM

set_option maxRecDepth 100000
set_option maxHeartbeats 4000000
/-! own `not in`; in an except suite a def with the caught error as its argument -/
namespace RI
open PySem PySem.Spec PyProof.Rows L2 PySem.W
section
variable {X : Cx} {C f : Addr} {k : Nat} {CX : CXT} {fd : FuncData} {ps : List Str} {sp : Sp} {E : XK}
/-- v not in o, o of an own class whose own __contains__ says a bool -/
def rNotInOwn (C : Addr) (sp : Sp) (E : XK) : R2 := fun x y H Q => ∃ a dx fs, y = .ref a ∧ H a = some (.ins C dx fs) ∧ sp [.ref a, x] H (fun v H' => ∃ r, v = .bl r ∧ Q (.bl (!r)) H') E
theorem op_notInOwn (F : FnOk X.prog X.w X.K X.mg X.base CX k f fd ps sp) (hs : findIn X.K (.ref C) "__contains__" = some (some (.ref f))) (hf : typeIn X.K (.ref f) = some (.type "function")) (hb : Binds X.K fd ps []) (hr : Room k X.A) (hx : Passes CX X E) :
    OpR X (compareOp .NotIn) (rNotInOwn C sp E) := by
  intro pins s σ H x y v u Q I rx ry h
  obtain ⟨a, dx, fs, rfl, ha, hsp⟩ := h
  cases (show u = Value.ref a from ry)
  obtain ⟨mA, J, _⟩ := ins_get I.hok ha
  obtain ⟨od, J, _⟩ := J.look
  have hl := F.len _ _ _ _ hsp
  have r2 : Vals [V.ref a, x] [Value.ref a, v] := .cons rfl (.cons rx .nil)
  show wpAny (model X.prog X.w) X.A (do return .bool (!(← contains (.ref a) v))) (EP X pins σ Q) X.xe s
  refine wpAny_bind (contains_own I.kIn J hs hf (wpAny_call (codeAny_mono (F.run X.A X.stack s H ⟨[.ref a, v], []⟩ [.ref a, v] [.ref a, x] _ E hr I.env0 (by
    have := hb s [.ref a, v] I.kIn (by simpa using hl)
    simpa using this) r2 hsp) fun r s' hq => ?_)))
  cases r with
  | error e => exact hx pins σ H s e s' I hq
  | ok fl =>
    cases fl with
    | ret w =>
      obtain ⟨z, H', I', rz, r, ez, q⟩ := I.after hq
      subst ez
      cases rz
      exact wpAny_pure (wpAny_pure ⟨.bl (!r), H', I', rfl, q⟩)
    | next => exact False.elim hq
    | brk => exact False.elim hq
    | cont => exact False.elim hq
end
end RI
namespace RH
open PySem PySem.Spec PyProof.Rows L2 HotX L2H
/-- what such a def asks, by the error's class and dict -/
def spZ (sp : Addr × Obj → Sp) (a : Addr) (cls : Value) (d : Option Addr) : Sp := fun vs H Q E => ∀ oe, Zc cls d oe → sp (a, oe) vs H Q E
section
variable {X : Cx} {CX : CXT} {k : Nat} {f C : Addr} {fd : FuncData} {ps : List Str} {sp : Addr × Obj → Sp} {E : L2.St → XK} {x m : Str} {q pos apos : Pos} {e o : Expr} {es : List Expr} {ta : TE} {t : TA} {p : Addr × Obj} {cls : Value} {d : Option Addr}
theorem pe_callES {a : Addr} {oe : Obj} (hz : Zc cls d oe) (F : FnE X.prog X.w X.K X.mg X.base CX k f fd ps sp) (hr : RoomH k X.A) (hot : Hot1 X.A (a, oe)) (hp : (a, oe) ∈ X.pn) (hg : Gl X x) (hm : X.mg x = some (.ref f)) (hk : PySem.W.keepIn X.K (.ref f) = true) (hb : Binds X.K fd ps []) (hx : ∀ σ, PassesAt CX X σ (E σ))
    (ha : PA X (e :: es) t) (hdb : (x == ("__debug__" : Str)) = false := by decide) (he : starEach (e :: es) X.env = (false, eval e X.env) :: starEach es X.env := by rfl) (hpl : (backTo pos (starEach es X.env)).any (·.1) = false := by rfl) :
    PE X (.Call (.Name x q) (e :: es) [] pos) (tCallS (spZ sp a cls d) E t) := by
  refine ⟨fun pins s σ H Q I h => ?_⟩
  refine wpAny_Call_Name_kw (ld_glob I hg hm ?_ hdb)
  refine PySem.W.callWith_K (h₀ := X.base) I.ok.mod.kin hk (thn (ha.run pos pins s σ H _ I h) fun us s1 ⟨vs, H1, I1, r, q⟩ => ⟨I1.kIn, ?_⟩) he hpl
  exact run_fnE F hr hot hp hb (hx σ) I1 r (q oe hz)
end
end RH

set_option maxRecDepth 100000
set_option maxHeartbeats 4000000
namespace K05
open PySem PySem.Spec PyProof.Rows L2 PySem.W PySem.Calls
/-! ### heaps -/
theorem same_new {H : Hp} {p : Addr} {o : HO} (h : H p = none) : Same H (upd H p o) := fun b x e => by
  rw [upd_ne (ne_of_none e h)]; exact e
theorem same_at {H H' : Hp} {o : Addr} {x : HO} (s : Same H H') (h : H o = none) : Same H (upd H' o x) := fun b z e => by
  rw [upd_ne (ne_of_none e h)]; exact s b z e
theorem same_new2 {H H' : Hp} {p : Addr} {o : HO} (s : Same H H') (h : H' p = none) : Same H (upd H' p o) := fun b z e => by
  have e2 := s b z e
  rw [upd_ne (ne_of_none e2 h)]; exact e2
theorem map_snoc (rs : List Int) (r : Int) : rs.map V.int ++ [V.int r] = (rs ++ [r]).map V.int := by rw [List.map_append]; rfl
theorem map_snocS (rs : List Str) (r : Str) : rs.map V.str ++ [V.str r] = (rs ++ [r]).map V.str := by rw [List.map_append]; rfl
/-! ### texts as lists -/
abbrev tl (z : Str) : List Nat := z.cps.toList
theorem tl_len (z : Str) : (tl z).length = z.length := by simp [tl, Str.length]
theorem str_eq {a b : Str} (h : tl a = tl b) : a = b := by
  obtain ⟨x⟩ := a; obtain ⟨y⟩ := b
  show (⟨x⟩ : Str) = ⟨y⟩
  congr 1
  apply Array.toList_inj.mp; simpa [tl] using h
theorem str_of {z : Str} {x : Nat} (h : tl z = [x]) : z = ⟨#[x]⟩ := str_eq h
theorem str_mk (z : Str) : z = ⟨(tl z).toArray⟩ := str_eq rfl
theorem tl_add (a b : Str) : tl (a ++ b) = tl a ++ tl b := by
  show (a.cps ++ b.cps).toList = _
  rw [Array.toList_append]
theorem len_add (a b : Str) : (a ++ b).length = a.length + b.length := by
  show (a.cps ++ b.cps).size = _
  rw [Array.size_append]; rfl
theorem lt_one (x y : Nat) : decide ([x] < [y]) = !decide (y ≤ x) := by
  have e : decide ([x] < [y]) = decide (x < y) := by simp [List.cons_lt_cons_iff]
  rw [e]
  by_cases h : y ≤ x
  · rw [decide_eq_true h, decide_eq_false (by omega)]; rfl
  · rw [decide_eq_false h, decide_eq_true (by omega)]; rfl
theorem eqS (a b : Nat) : decide (V.str ⟨#[a]⟩ = V.str ⟨#[b]⟩) = decide (a = b) := by
  refine decide_eq_decide.mpr ⟨fun h => ?_, fun h => by rw [h]⟩
  injection h with h1
  have h2 := congrArg tl h1
  simpa [tl] using h2
theorem eqT (a b : Str) : decide (V.str a = V.str b) = decide (tl a = tl b) := by
  refine decide_eq_decide.mpr ⟨fun h => ?_, fun h => by rw [str_eq h]⟩
  injection h with h1
  rw [h1]
theorem eqI (a b : Int) : decide (V.int a = V.int b) = decide (a = b) := by
  refine decide_eq_decide.mpr ⟨fun h => ?_, fun h => by rw [h]⟩
  injection h
theorem cut_tl (z : Str) (a b : Nat) : tl (cutS z (some (a : Int)) (some (b : Int))) = ((tl z).drop (min a z.length)).take (min b z.length - min a z.length) := by
  unfold cutS tl
  rw [HT.sIx_nat, HT.sIx_nat]
theorem cut_to (z : Str) (b : Nat) : tl (cutS z none (some (b : Int))) = (tl z).take b := by
  unfold cutS tl
  rw [HT.sIx_none, HT.sIx_nat]
  show (z.cps.toList.drop 0).take (min b z.length - 0) = _
  rw [List.drop_zero, Nat.sub_zero]
  by_cases h : b ≤ z.length
  · rw [Nat.min_eq_left h]
  · rw [Nat.min_eq_right (by omega), List.take_of_length_le (by rw [tl_len]; exact Nat.le_refl _), List.take_of_length_le (by rw [tl_len]; omega)]
theorem cut_from (z : Str) (a : Nat) : tl (cutS z (some (a : Int)) none) = (tl z).drop a := by
  unfold cutS tl
  rw [HT.sIx_none, HT.sIx_nat]
  show (z.cps.toList.drop (min a z.length)).take (z.length - min a z.length) = _
  by_cases h : a ≤ z.length
  · rw [Nat.min_eq_left h, List.take_of_length_le (by rw [List.length_drop, tl_len]; exact Nat.le_refl _)]
  · rw [Nat.min_eq_right (by omega), Nat.sub_self, List.take_zero, List.drop_of_length_le (by rw [tl_len]; omega)]
theorem joinL_flat : ∀ ls : List (List Nat), TL.joinL [] ls = ls.flatten
  | [] => rfl
  | [p] => by simp [TL.joinL]
  | p :: q :: r => by
    have h := joinL_flat (q :: r)
    simp only [TL.joinL, List.nil_append, h, List.flatten_cons]
theorem tl_joined {e : Str} (he : tl e = []) (ys : List Str) : tl (Txt.join e ys) = (ys.map tl).flatten := by
  have h1 : TL.tl (Txt.join e ys) = TL.joinL (TL.tl e) (ys.map TL.tl) := by rw [TL.join_eq, TL.tl_join]
  have h2 : TL.tl e = [] := he
  rw [h2, joinL_flat] at h1
  exact h1
/-- texts of one sign each, joined -/
theorem join_ones (cs : List Nat) : tl (Txt.join (Str.ofString "") (cs.map fun c => (⟨#[c]⟩ : Str))) = cs := by
  rw [tl_joined (by decide +kernel), List.map_map]
  induction cs with
  | nil => rfl
  | cons c cs ih => simp only [List.map_cons, List.flatten_cons, ih]; rfl
theorem sum_ones (cs : List Nat) : ((cs.map fun c => (⟨#[c]⟩ : Str)).map (·.length)).sum = cs.length := by
  induction cs with
  | nil => rfl
  | cons c cs ih => simp only [List.map_cons, List.sum_cons, ih, List.length_cons]; show 1 + _ = _; omega
theorem pick {z : Str} {r : Int} (h0 : 0 ≤ r) (h1 : r < (z.length : Int)) : ∃ c, atI z.cps.toList r = some c ∧ c ∈ tl z := by
  have h2 : r.toNat < z.cps.toList.length := by rw [Array.length_toList]; have : z.length = z.cps.size := rfl; omega
  have h3 : ((r.toNat : Nat) : Int) = r := by omega
  have h4 := atI_nat (List.getElem?_eq_getElem h2)
  rw [h3] at h4
  exact ⟨_, h4, List.getElem_mem h2⟩
theorem cutV_nat (xs : List V) {a b : Nat} (hab : a ≤ b) (hb : b ≤ xs.length) : cutV xs (some (a : Int)) (some (b : Int)) = (xs.drop a).take (b - a) := by
  unfold cutV
  rw [HT.sIx_nat, HT.sIx_nat, Nat.min_eq_left hb, Nat.min_eq_left (Nat.le_trans hab hb)]
def isL (x : Nat) : Bool := decide (97 ≤ x) && decide (x ≤ 122)
def letters : Str := Str.ofString "abcdefghijklmnopqrstuvwxyz"
theorem letters_L : ∀ c ∈ tl letters, isL c = true := by decide +kernel
theorem letters_len : letters.length = 26 := by decide +kernel
/-! the text -/
def topS (i : Nat) : Stmt := PySem.Challenge.pw_laidforall_k05_grammars.main.body.getD i (.Pass ⟨0, 0, 0, 0⟩)
abbrev sTakenI : Stmt := inClass (topS 3) 0
abbrev sUnknownI : Stmt := inClass (topS 4) 0
abbrev sMisfitI : Stmt := inClass (topS 5) 0
abbrev sCheckIn : Stmt := topS 10
abbrev sInit : Stmt := inClass (topS 11) 0
abbrev sUsual : Stmt := inClass (topS 11) 1
abbrev sGet : Stmt := inClass (topS 11) 2
abbrev sHas : Stmt := inClass (topS 11) 3
abbrev sLen : Stmt := inClass (topS 11) 4
abbrev sIter : Stmt := inClass (topS 11) 5
abbrev sCell : Stmt := topS 13
abbrev sRow : Stmt := topS 14
abbrev sSame : Stmt := topS 15
abbrev sNames : Stmt := topS 16
abbrev sKinds : Stmt := topS 17
abbrev sMay : Stmt := topS 18
abbrev sGrammar : Stmt := topS 19
abbrev sError : Stmt := topS 20
abbrev sDue : Stmt := topS 21
abbrev sTells : Stmt := topS 22
abbrev sAsked : Stmt := topS 23
abbrev sPut : Stmt := topS 24
abbrev sChanged : Stmt := topS 25
abbrev sLaw : Stmt := topS 26
structure Blt (mg : Str → Option Value) : Prop where
  len : mg "len" = none
  int : mg "int" = none
  str : mg "str" = none
  bool : mg "bool" = none
  tuple : mg "tuple" = none
  list : mg "list" = none
  range : mg "range" = none
  isi : mg "isinstance" = none
  iter : mg "iter" = none
  sum : mg "sum" = none
  max : mg "max" = none
  ve : mg "ValueError" = none
section
variable {P : Program} {w : World} {K : PySem.W.Frag} {mg : Str → Option Value} {base : Heap}
/-! ### _law_cell -/
def spCell (K : PySem.W.Frag) : Sp := fun vs H Q _ => ∃ (a : Addr) (ns : List Int) (k : Int), vs = [.ref a, .int k] ∧ SqL K H a (ns.map V.int) ∧ ns.length ≤ 63 ∧ 0 ≤ k ∧ k ≤ 1000 ∧ ∀ H' c, Same H H' → Q (.int c) H'
abbrev nCell : List Str := ["_law_script", "_law_k", "_law_number"]
theorem scCell : FnScope nCell ["_law_script", "_law_k"] (defScope sCell) := ⟨rfl, rfl, rfl, by decide +kernel, rfl, by decide +kernel, by decide +kernel⟩
theorem ok_cell {f : Addr} {fd : FuncData} (B : Blt mg) (F : Fun K "_law_cell" "_law_cell" sCell f fd) : FnOk P w K mg base CX0 1 f fd ["_law_script", "_law_k"] (spCell K) := by
  refine F.ok scCell (fun vs H Q E h => ?_) (fun cdv A outer s H vs Q E hr h => ?_)
  · obtain ⟨a, ns, k, rfl, _⟩ := h; rfl
  · obtain ⟨a, ns, k, rfl, hS, hlen, h0, h1, q⟩ := h
    refine ⟨_, (pss_cons (ps_if (pt_cmpR op_eq (pe_callB call_len (by rfl) B.len PySem.boot_len (pa_cons (pv 0) pa_nil)) pe_int (nomark _))
      (pss_one (ps_ret (pe_op op_pow pe_int pe_int)))
      pss_nil)
      (pss_cons (ps_if (pt_cmpR op_lt (pv 1) (pe_callB call_len (by rfl) B.len PySem.boot_len (pa_cons (pv 0) pa_nil)) (nomark _))
      (pss_one (ps_ret (pe_callTy call_int1 (by rfl) B.int (by decide +kernel) (pa_cons (pe_ix ix_list (pv 0) (pv 1) (fun _ _ => rfl)) pa_nil))))
      pss_nil)
      (pss_one (ps_ret (pe_op op_add (pe_op op_mul pe_int (pv 1)) (pe_callB (cr_sum rfl) (by rfl) B.sum (by decide +kernel) (pa_cons (pe_lc (own := [("_law_number", 2)]) (g := gName 2) (tt := tYes) rfl scCell.nd (pi_list (pv 0)) (blkOk_by (N := nCell) (sc := defScope sCell) (by decide +kernel)) (fun _ _ _ _ _ => (pg_name (i := 2) scCell.nd rfl (.inl rfl))) (fun _ _ _ _ _ => pts_nil) (fun _ _ _ _ _ => (pe_op op_modN (pe_callTy call_int1 (by rfl) B.int (by decide +kernel) (pa_cons (pv 2) pa_nil)) pe_int))) pa_nil))))))), ?_⟩
    refine ⟨.ref a, rfl, .ref a, _, rfl, .inl ⟨_, hS, rfl⟩, rfl, _, rfl, ite2 (fun _ => ⟨10, 18, rfl, rfl, ⟨by decide, by decide, by decide⟩, q _ _ (Same.refl _)⟩) (fun _ => ?_)⟩
    refine ⟨.int k, rfl, .ref a, rfl, .ref a, (ns.map V.int).length, rfl, .inl ⟨_, hS, rfl⟩, k, _, rfl, rfl, _, rfl, ite2 (fun hk => ?_) (fun _ => ?_)⟩
    · have hk' : k < ((ns.map V.int).length : Int) := of_decide_eq_true hk
      rw [List.length_map] at hk'
      have hlt : k.toNat < ns.length := by omega
      exact ⟨.ref a, rfl, .int k, rfl, a, _, k, .int (ns[k.toNat]'hlt), rfl, rfl, hS, at_of (j := k.toNat) (by omega) (by rw [List.getElem?_map]; simp [hlt]), .inl ⟨_, rfl, q _ _ (Same.refl _)⟩⟩
    · refine ⟨.int k, rfl, 7, k, rfl, rfl, .inl ⟨by decide, by decide⟩, .ref a, rfl, a, rfl, ⟨_, hS⟩, fun D hD => ?_⟩
      refine lc_list (K := K) (a := a) (xs := ns.map V.int) (fun i H' => H' D = some (.lst (((ns.take i).map fun n => n.fmod 1000).map V.int)) ∧ Same H H') ⟨upd_same, same_new hD⟩ (fun i H' _ ⟨_, sm⟩ => sm.seq hS) ?_ ?_
      · rintro i x H' hi ⟨hD', sm⟩
        rw [List.getElem?_map] at hi
        cases en : ns[i]? with
        | none => rw [en] at hi; cases hi
        | some n =>
        rw [en] at hi; cases hi
        have hilt := (List.getElem?_eq_some_iff.mp en).1
        refine ⟨rfl, .int n, rfl, .inl ⟨n, rfl, n, 1000, rfl, rfl, (show (1000 : Int) ≠ 0 by decide), _, hD', ?_, ?_, same_at sm hD⟩⟩
        · rw [List.length_map, List.length_map, List.length_take]; exact small1000 (by omega)
        · rw [upd_same, List.take_add_one, en, List.map_append, List.map_append]; rfl
      · rintro H' ⟨hD', sm⟩
        exact ⟨D, _, rfl, SqL.of hD', _, _, rfl, rfl, q _ _ sm⟩
/-! ### _law_row -/
def RowOf (ls rs : List Int) : Prop := rs.length = ls.length ∧ ∀ (i : Nat) (l : Int), ls[i]? = some l → ∃ r, rs[i]? = some r ∧ 0 ≤ r ∧ r < l
def spRow (K : PySem.W.Frag) : Sp := fun vs H Q _ => ∃ (c : Int) (a : Addr) (ls : List Int), vs = [.int c, .ref a] ∧ SqL K H a (ls.map V.int) ∧ ls.length ≤ 1000 ∧ (∀ l ∈ ls, 0 < l ∧ l < 1000000) ∧
  ∀ H' p rs, Same H H' → H p = none → H' p = some (.lst (rs.map V.int)) → RowOf ls rs → Q (.ref p) H'
abbrev nRow : List Str := ["_law_cell_here", "_law_limits", "_law_row_here", "_law_rest", "_law_k", "_law_mixed"]
theorem scRow : FnScope nRow ["_law_cell_here", "_law_limits"] (defScope sRow) := ⟨rfl, rfl, rfl, by decide +kernel, rfl, by decide +kernel, by decide +kernel⟩
theorem ok_row {f : Addr} {fd : FuncData} (B : Blt mg) (F : Fun K "_law_row" "_law_row" sRow f fd) : FnOk P w K mg base CX0 1 f fd ["_law_cell_here", "_law_limits"] (spRow K) := by
  refine F.ok scRow (fun vs H Q E h => ?_) (fun cdv A outer s H vs Q E hr h => ?_)
  · obtain ⟨c, a, ls, rfl, _⟩ := h; rfl
  · obtain ⟨c, a, ls, rfl, hS, hlen, hpos, q⟩ := h
    refine ⟨_, (pss_cons (ps_set (i := 2) scRow.nd rfl (.inl rfl) (pe_lst pa_nil))
      (pss_cons (ps_set (i := 3) scRow.nd rfl (.inl rfl) (pe_callB (call_max2 rfl) (by rfl) B.max (by decide +kernel) (pa_cons pe_int (pa_cons (pe_op op_sub (pv 0) (pe_op op_pow pe_int pe_int)) pa_nil))))
      (pss_cons (ps_for (PassesOwn.never) rfl (pi_range1 (by rfl) B.range (pa_cons (pe_callB call_len (by rfl) B.len PySem.boot_len (pa_cons (pv 1) pa_nil)) pa_nil)) (pg_name (i := 4) scRow.nd rfl (.inl rfl))
      (pss_one (ps_if (PW.pt (pw_or (pt_cmpR op_gt (pv 3) pe_int (nomark _)) (pw_or1 (pt_cmpR op_eq (pv 0) (pe_op op_pow pe_int pe_int) (nomark _)))))
       (pss_cons (ps_expr (pe_bm PySem.F.plainAttrs_list PySem.F.slot_list_append PySem.F.type_list_append mt_append (pv 2) (pa_cons (pe_op op_modN (pe_callTy call_int1 (by rfl) B.int (by decide +kernel) (pa_cons (pv 3) pa_nil)) (pe_ix ix_list (pv 1) (pv 4) (fun _ _ => rfl))) pa_nil)))
        (pss_one (ps_set (i := 3) scRow.nd rfl (.inl rfl) (pe_op op_fdivN (pv 3) (pe_ix ix_list (pv 1) (pv 4) (fun _ _ => rfl))))))
       (pss_cons (ps_set (i := 5) scRow.nd rfl (.inl rfl) (pe_op op_modN (pe_callTy call_int1 (by rfl) B.int (by decide +kernel) (pa_cons (pe_op op_add (pe_op op_add (pe_op op_mul (pv 0) pe_int) (pe_op op_mul (pv 4) pe_int)) pe_int) pa_nil)) pe_int))
        (pss_cons (ps_set (i := 5) scRow.nd rfl (.inl rfl) (pe_op op_modN (pe_callTy call_int1 (by rfl) B.int (by decide +kernel) (pa_cons (pe_op op_add (pe_op op_add (pe_op op_mul (pv 5) (pe_op op_add pe_int (pe_op op_mul pe_int (pv 4)))) (pe_op op_mul (pe_op op_mul (pv 4) (pv 4)) pe_int)) pe_int) pa_nil)) pe_int))
        (pss_one (ps_expr (pe_bm PySem.F.plainAttrs_list PySem.F.slot_list_append PySem.F.type_list_append mt_append (pv 2) (pa_cons (pe_op op_modN (pe_callTy call_int1 (by rfl) B.int (by decide +kernel) (pa_cons (pe_op op_fdivN (pv 5) pe_int) pa_nil)) (pe_ix ix_list (pv 1) (pv 4) (fun _ _ => rfl))) pa_nil)))))))))
      (pss_one (ps_ret (pv 2)))))), ?_⟩
    refine ⟨Nat.zero_le _, fun o no => ?_⟩
    have s1 : Same H (upd H o (.lst [])) := same_new no
    have eo : (upd H o (.lst [])) o = some (.lst (([] : List Int).map V.int)) := upd_same
    generalize upd H o (.lst []) = H1 at s1 eo ⊢
    have more : ∀ (n : Nat) (rs : List Int) (l : Int), ls[n]? = some l → rs.length = n → (∀ (i : Nat) (l : Int), i < n → ls[i]? = some l → ∃ r, rs[i]? = some r ∧ 0 ≤ r ∧ r < l) → ∀ x : Int, ∀ (i : Nat) (m : Int), i < n + 1 → ls[i]? = some m → ∃ r, (rs ++ [x.fmod l])[i]? = some r ∧ 0 ≤ r ∧ r < m := by
      intro n rs l hl hrs hrow x i m hi hm
      have hp := hpos l (List.mem_of_getElem? hl)
      by_cases hin : i < n
      · obtain ⟨r, h1, h2, h3⟩ := hrow i m hin hm
        exact ⟨r, by rw [List.getElem?_append_left (by omega)]; exact h1, h2, h3⟩
      · obtain rfl : i = n := by omega
        rw [hl] at hm; cases hm
        exact ⟨_, by rw [List.getElem?_append_right (by omega), hrs, Nat.sub_self]; rfl, Int.fmod_nonneg_of_pos _ hp.1, Int.fmod_lt_of_pos _ hp.1⟩
    refine ⟨.int c, rfl, 10, 18, rfl, rfl, ⟨by decide, by decide, by decide⟩, c, _, rfl, rfl, _, _, rfl, ?_⟩
    refine ⟨.ref a, rfl, .ref a, (ls.map V.int).length, rfl, .inl ⟨_, s1.seq hS, rfl⟩, ((ls.map V.int).length : Int), rfl, by omega, by rw [List.length_map]; omega, ?_⟩
    rw [Int.toNat_natCast, List.length_map]
    refine for_range (lo := 0) (n := ls.length) (fun n σ H' => ∃ (rest : Int) (y4 y5 : Option V) (rs : List Int), σ = [some (.int c), some (.ref a), some (.ref o), some (.int rest), y4, y5] ∧ Same H H' ∧ H' o = some (.lst (rs.map V.int)) ∧ rs.length = n ∧
      ∀ (i : Nat) (l : Int), i < n → ls[i]? = some l → ∃ r, rs[i]? = some r ∧ 0 ≤ r ∧ r < l) ⟨_, none, none, [], rfl, s1, eo, rfl, fun i l h => absurd h (Nat.not_lt_zero i)⟩ ?_ ?_
    · rintro n σ H' hn ⟨rest, y4, y5, rs, rfl, sm, ho, hl, hrow⟩
      have e0 : (0 : Int) + (n : Int) = (n : Int) := by omega
      rw [e0]
      have hSn : SqL K H' a (ls.map V.int) := sm.seq hS
      have en : ls[n]? = some (ls[n]'hn) := by simp [hn]
      have hat : (ls.map V.int)[n]? = some (.int (ls[n]'hn)) := by rw [List.getElem?_map, en]; rfl
      have hp := hpos (ls[n]'hn) (List.getElem_mem hn)
      have hsz : (rs.map V.int).length < sizeLine := by rw [List.length_map]; exact small1000 (by omega)
      refine ⟨.int rest, rfl, rest, 0, rfl, rfl, _, rfl, ?_⟩
      have hS2 : ∀ r : Int, SqL K (upd H' o (.lst (rs.map V.int ++ [V.int r]))) a (ls.map V.int) := fun r => (same_at sm no).seq hS
      refine ite2 (fun _ => ?_) (fun _ => ⟨.int c, rfl, 10, 18, rfl, rfl, ⟨by decide, by decide, by decide⟩, rfl, _, rfl, ite2 (fun _ => ?_) (fun _ => ?_)⟩)
      · refine ⟨.ref o, rfl, .inl ⟨rfl, _, SqL.of ho⟩, .int rest, rfl, .inl ⟨rest, rfl, .ref a, rfl, .int (n : Int), rfl, a, _, (n : Int), .int (ls[n]'hn), rfl, rfl, hSn, atI_nat hat, rest, ls[n]'hn, rfl, rfl, by omega, o, _, _, rfl, rfl, ho, hsz, ?_⟩⟩
        refine ⟨.int rest, rfl, .ref a, rfl, .int (n : Int), rfl, a, _, (n : Int), .int (ls[n]'hn), rfl, rfl, hS2 _, atI_nat hat, rest, ls[n]'hn, rfl, rfl, ⟨by omega, by omega⟩, ?_⟩
        exact ⟨_, _, _, _, rfl, same_at sm no, by rw [upd_same, map_snoc], by rw [List.length_append, hl]; rfl, more n rs _ en hl hrow rest⟩
      · refine ⟨.ref o, rfl, .inl ⟨rfl, _, SqL.of ho⟩, .int rest, rfl, .inl ⟨rest, rfl, .ref a, rfl, .int (n : Int), rfl, a, _, (n : Int), .int (ls[n]'hn), rfl, rfl, hSn, atI_nat hat, rest, ls[n]'hn, rfl, rfl, by omega, o, _, _, rfl, rfl, ho, hsz, ?_⟩⟩
        refine ⟨.int rest, rfl, .ref a, rfl, .int (n : Int), rfl, a, _, (n : Int), .int (ls[n]'hn), rfl, rfl, hS2 _, atI_nat hat, rest, ls[n]'hn, rfl, rfl, ⟨by omega, by omega⟩, ?_⟩
        exact ⟨_, _, _, _, rfl, same_at sm no, by rw [upd_same, map_snoc], by rw [List.length_append, hl]; rfl, more n rs _ en hl hrow rest⟩
      · refine ⟨.int c, rfl, c, 48271, rfl, rfl, .inr ⟨by decide, by decide⟩, .int (n : Int), rfl, (n : Int), 69621, rfl, rfl, .inr ⟨by decide, by decide⟩, _, _, rfl, rfl, _, 11, rfl, rfl, .inl ⟨_, rfl, _, 2147483647, rfl, rfl, (show (2147483647 : Int) ≠ 0 by decide), ?_⟩⟩
        have hm0 : 0 ≤ (c * 48271 + (n : Int) * 69621 + 11).fmod 2147483647 := Int.fmod_nonneg_of_pos _ (by decide)
        have hm1 : (c * 48271 + (n : Int) * 69621 + 11).fmod 2147483647 < 2147483647 := Int.fmod_lt_of_pos _ (by decide)
        refine ⟨_, rfl, .int (n : Int), rfl, 2, (n : Int), rfl, rfl, .inl ⟨by decide, by decide⟩, 16807, _, rfl, rfl, (c * 48271 + (n : Int) * 69621 + 11).fmod 2147483647, _, rfl, rfl, .inl ⟨Int.lt_of_lt_of_le (by decide) hm0, Int.lt_trans hm1 (by decide)⟩, .int (n : Int), rfl, .int (n : Int), rfl, (n : Int), (n : Int), rfl, rfl, .inl ⟨by omega, by omega⟩, _, 40692, rfl, rfl, .inr ⟨by decide, by decide⟩, _, _, rfl, rfl, _, 7, rfl, rfl, .inl ⟨_, rfl, _, 2147483399, rfl, rfl, (show (2147483399 : Int) ≠ 0 by decide), ?_⟩⟩
        refine ⟨.ref o, rfl, .inl ⟨rfl, _, SqL.of ho⟩, _, rfl, _, 31, rfl, rfl, ⟨by decide, by decide⟩, .inl ⟨_, rfl, .ref a, rfl, .int (n : Int), rfl, a, _, (n : Int), .int (ls[n]'hn), rfl, rfl, hSn, atI_nat hat, _, ls[n]'hn, rfl, rfl, by omega, o, _, _, rfl, rfl, ho, hsz, ?_⟩⟩
        exact ⟨_, _, _, _, rfl, same_at sm no, by rw [upd_same, map_snoc], by rw [List.length_append, hl]; rfl, more n rs _ en hl hrow _⟩
    · rintro σ H' ⟨rest, y4, y5, rs, rfl, sm, ho, hl, hrow⟩
      exact ⟨.ref o, rfl, q H' o rs sm no ho ⟨hl, fun i l hli => hrow i l (List.getElem?_eq_some_iff.mp hli).1 hli⟩⟩
end
end K05

set_option maxRecDepth 100000
set_option maxHeartbeats 8000000
namespace K05
section
open PySem PySem.Spec PyProof.Rows L2 PySem.W PySem.Calls
/-! isinstance of a caught error whose own dict stands -/
section
variable {prog : Program} {w : World} {A : Around} {E : Value → Shared → Prop} {s : Shared} {K : Frag} {x D : Addr} {ox : Obj} {od : Option Obj}
theorem find_cls (hc : (clsIn K D).isSome = true) (C : L2.ExcC K D) : findObj K D od "__class__" = some (.bind (.builtin "getset_descriptor.__get__") (.builtin "object.__class__")) := by
  obtain ⟨cd, e⟩ := Option.isSome_iff_exists.mp hc
  unfold findObj
  rw [e, Option.bind_some, C.ha, Option.bind_some]; simp [C.hn, C.ht]
theorem ask_cls {Q : Option Value → Shared → Prop} (C : L2.ExcC K D) (X : K.In s.heap) (I : InstAt s.heap x ox D od) (h : Q (some (.ref D)) { s with toks := s.toks + 1 }) :
    wpAny (model prog w) A (getAttr? (.ref x) "__class__") Q E s := by
  have hf := find_cls (od := od) (by obtain ⟨c0, e0, _⟩ := any_some C.hd; rw [e0]; rfl) C
  obtain ⟨hp, g, dr, tk, os⟩ := s
  have A0 := I.type (M := model prog w); have A1 := looks_findIn (M := model prog w) X C.hg; have A2 := looks_findIn (M := model prog w) X C.hk
  have A3 := looks_find (M := model prog w) X I hf; have A4 : Looks (model prog w) hp (isInstance (.ref x) (.type "BaseException")) true := A0.andThen (looks_subIn X C.hs)
  have b0 : (false && onTheHeap (Value.builtin "BaseException.__getattribute__")) = false := rfl
  have b2 : (Value.builtin "BaseException.__getattribute__" == Value.builtin "object.__getattribute__") = false := by decide +kernel
  have b1 : (onTheHeap (Value.ref D) && Value.builtin "BaseException.__getattribute__" == Value.builtin "object.__getattribute__") = false := by rw [b2]; rfl
  unfold getAttr? getAttrBy? getAttrBy
  refine wpAny_bind (wpAny_mkText (wpAny_bind (wpAny_attempt (wpAny_holding (wpAny_bind (A0.at (wpAny_bind (A1.at ?_))))))))
  show wpAny _ _ (if (onTheHeap (Value.ref D) && Value.builtin "BaseException.__getattribute__" == Value.builtin "object.__getattribute__") = true then _ else _) _ _ _
  rw [b1, if_neg Bool.false_ne_true]; unfold getAttrByItsOwn hookBefore
  refine wpAny_bind ?_; rw [if_pos (show onTheHeap (Value.ref D) = true from rfl)]; refine A2.at ?_
  refine wpAny_bind (wpAny_attempt (wpAny_holding ?_)); unfold callGetattribute; rw [b0, if_neg Bool.false_ne_true]; unfold boundAndCalled
  rw [PySem.F.excAttr_ValueError.ga.bind (.ref x)]; refine wpAny_bind (wpAny_pure ?_)
  show wpAny _ _ (call (.builtin "BaseException.__getattribute__") [.ref x, .str "__class__" tk]) _ _ _
  refine wpAny_call (codeAny_call_builtin PySem.F.excAttr_ValueError.ga.plain PySem.F.entry_bexc_ga ?_)
  refine @check_slot (model prog w) _ _ ⟨hp, g, dr, tk + 1, os⟩ "BaseException.__getattribute__" "BaseException" "__getattribute__" (.ref x) [.str "__class__" tk] [] _ (by decide +kernel) (by decide +kernel) A4 (PySem.F.args_bexc_ga (.ref x) (.str "__class__" tk)) ?_
  unfold Builtin.«object.__getattribute__»; refine wpAny_bind (wpAny_of_eq (a := ((Value.ref x : Value), [Value.str "__class__" tk])) (by first | rfl | (simp only [slotArgs]; rfl)) ?_)
  refine wpAny_bind (wpAny_pure (wpAny_bind (A0.at (wpAny_bind (A3.at ?_)))))
  show wpAny _ _ (holding [Value.builtin "object.__class__"] (call (.builtin "getset_descriptor.__get__") [.builtin "object.__class__", .ref x, .ref D]) >>= ret) _ _ _
  refine wpAny_bind (wpAny_holding (wpAny_call (class_get (s := ⟨hp, g, dr, tk + 1, os⟩) (ox := ox) (od := od) X I C.hm ?_))); refine wpAny_pure ?_
  show wpAny _ _ (handedOut (.ref D)) _ _ _; rw [handedOut_of (v := .ref D) rfl]
  first | exact wpAny_pure (wpAny_pure h) | exact wpAny_pure h | exact wpAny_pure (wpAny_bind (wpAny_pure (wpAny_pure h)))
theorem kit_err (C : L2.ExcC K D) : KitX K (.ref x) (.ref D) (fun h => InstAt h x ox D od) := by
  obtain ⟨cd, hc, _⟩ := any_some C.hd
  refine ⟨fun _ _ _ I => I.type, fun M h X _ => ?_, fun h tp dd its n sl X htp => ?_, fun X I k => ask_cls C X I k⟩
  · unfold clsIn at hc
    split at hc
    · rename_i o1 o2 o3 o4 ho
      intro A' Q' E' s' k q; unfold isType loadHead; exact wpAny_bind (wpAny_loadPart (k _ _ (X _ _ ho)) (wpAny_pure q))
    · cases hc
  · refine Bool.eq_false_iff.mpr fun q => ?_
    have e : D = tp := Value.ref.inj (beq_iff_eq.mp q); subst e
    unfold clsIn at hc
    split at hc
    · rename_i o1 o2 o3 o4 ho
      have z := (X _ _ ho).symm.trans htp; cases z
    · cases hc
end
/-- isinstance(e, c), e the caught error at a, of class D, its own dict at dd -/
def rIsD (K : PySem.W.Frag) (D a : Addr) (cls : Value) (d : Option Addr) : List V → Hp → VK → Prop := fun xs H Q => ∃ (c : V) (cv : Value) (b : Bool) (dd : Addr) (fs : List (Str × V)),
  cls = .ref D ∧ xs = [.ref a, c] ∧ (∀ u, RelV c u → u = cv) ∧ kitOne K (.ref D) cv = some b ∧ d = some dd ∧ H dd = some (.xd fs) ∧ Q (.bl b) H
theorem call_isD {X : Cx} {a D : Addr} {oe : Obj} {cls : Value} {d : Option Addr} {pn : List (Addr × Obj)} (C : ExcC X.K D) (hz : Zc cls d oe) (hf : ∃ vs, oe.data = .fields vs) : CallR (X.suite a ((a, oe) :: pn)) (.builtin "isinstance") (rIsD X.K D a cls d) := by
  intro pins s σ H xs us Q I r h
  obtain ⟨c, cv, b, dd, fs, ecl, rfl, hcv, e, ed, ea, q⟩ := h
  subst ecl
  subst ed
  obtain ⟨u1, u2, rfl, r1, r2⟩ := vals2 r
  obtain rfl : u1 = Value.ref a := r1
  have ec := hcv _ r2; subst ec
  obtain ⟨hget, _⟩ := I.pin (a, oe) (List.mem_append_left _ List.mem_cons_self)
  obtain ⟨vs, hv⟩ := hf
  have hx : ObjOk X.prog X.w H s.heap dd (.xd fs) := I.hok dd _ ea
  obtain ⟨mA, hns, hr⟩ := hx
  obtain ⟨od, ho, hl⟩ := lookIn_ns hns
  have J : InstAt s.heap a oe D (some od) := ⟨hget, hz.1, by unfold PySem.W.notCls; rw [hv] <;> rfl, by rw [hz.2]; exact ho⟩
  exact kia_one (kit_err C) I.kIn J e (fun z => nomatch z) fun tk => ⟨.bl b, H, I.kept (t' := tk) fun _ _ z => z, rfl, q⟩
end
open PySem PySem.Spec PyProof.Rows L2
section
variable {P : Program} {w : World} {K : PySem.W.Frag} {mg : Str → Option Value} {base : Heap} {t1 t2 t3 t4 t5 : Tok}

section
open PySem PySem.Spec PyProof.Rows L2
variable {P : Program} {w : World} {K : PySem.W.Frag} {mg : Str → Option Value} {base : Heap}
/-! ### _law_same -/
theorem ty_txt {H : Hp} {z : Str} : TyX K H (.str z) (.type "str") := .base (.str z)
theorem ty_lst {H : Hp} {a : Addr} {xs : List V} (h : H a = some (.lst xs)) : TyX K H (.ref a) (.type "list") := .base (.lst h)
theorem ty_tup {H : Hp} {a : Addr} {xs : List V} (h : H a = some (.tup xs)) : TyX K H (.ref a) (.type "tuple") := .base (.tup h)
def Leaf (v : V) : Prop := (∃ z, v = .str z) ∨ ∃ i, v = .int i
/-- tuples stand -/
def Still : HO → Prop
  | .tup _ => True
  | _ => False
def Kp (H H' : Hp) : Prop := ∀ b o, Still o → H b = some o → H' b = some o
theorem Kp.refl (H : Hp) : Kp H H := fun _ _ _ h => h
theorem Kp.trans {H H1 H2 : Hp} (a : Kp H H1) (b : Kp H1 H2) : Kp H H2 := fun x o n h => b x o n (a x o n h)
theorem Kp.of {H H' : Hp} (s : Same H H') : Kp H H' := fun b o _ h => s b o h
theorem Kp.but {H H' : Hp} {p : Addr} {u : HO} (hp : H p = some u) (nu : ¬ Still u) (s : ∀ b o, b ≠ p → H b = some o → H' b = some o) : Kp H H' := fun b o n h => s b o (fun e => by
  rw [e, hp] at h; cases h; exact nu n) h
theorem Kp.tup {H H' : Hp} (s : Kp H H') {a : Addr} {xs : List V} (h : H a = some (.tup xs)) : H' a = some (.tup xs) := s _ _ True.intro h
theorem upd_but {H : Hp} {p : Addr} {x : HO} : ∀ b o, b ≠ p → H b = some o → upd H p x b = some o := fun b o h e => by rw [upd_ne h]; exact e
/-- a tuple, on the heap or a constant of the text -/
def TA (K : PySem.W.Frag) (H : Hp) (a : Addr) (xs : List V) : Prop := H a = some (.tup xs) ∨ ∃ (o : Obj) (its : Array Value) (n : Nat), K.lookup a = some o ∧ o.cls = .type "tuple" ∧ o.data = .seq its n ∧ its.size ≤ sizeLine ∧ Vals xs its.toList
theorem TA.sq {H : Hp} {a : Addr} {xs : List V} : TA K H a xs → SqT K H a xs
  | .inl h => SqT.of h
  | .inr h => .inr h
theorem TA.kp {H H' : Hp} {a : Addr} {xs : List V} (s : Kp H H') : TA K H a xs → TA K H' a xs
  | .inl h => .inl (s.tup h)
  | .inr h => .inr h
theorem ty_TA {H : Hp} {a : Addr} {xs : List V} : TA K H a xs → TyX K H (.ref a) (.type "tuple")
  | .inl h => ty_tup h
  | .inr ⟨_, _, _, e, c, _⟩ => .kTuple e c
/-- the same through and through, n deep -/
def SameV (K : PySem.W.Frag) : Nat → Hp → V → V → Prop
  | 0, _, x, y => x = y ∧ Leaf x
  | n + 1, H, x, y => (x = y ∧ Leaf x) ∨ ∃ (a b : Addr) (xs ys : List V), x = .ref a ∧ y = .ref b ∧ ((H a = some (.lst xs) ∧ H b = some (.lst ys)) ∨ (TA K H a xs ∧ TA K H b ys)) ∧ xs.length = ys.length ∧ ys.length ≤ 1000 ∧
      ∀ (i : Nat) u v, xs[i]? = some u → ys[i]? = some v → SameV K n H u v
def spSame (K : PySem.W.Frag) (n : Nat) : Sp := fun vs H Q _ => ∃ x y, vs = [x, y] ∧ SameV K n H x y ∧ Q (.bl true) H
theorem scSame : FnScope ["_law_one", "_law_two", "_law_k"] ["_law_one", "_law_two"] (defScope sSame) := ⟨rfl, rfl, rfl, by decide +kernel, rfl, by decide +kernel, by decide +kernel⟩
theorem ok_same0 {f : Addr} {fd : FuncData} (B : Blt mg) (F : Fun K "_law_same" "_law_same" sSame f fd) : FnOk P w K mg base CX0 1 f fd ["_law_one", "_law_two"] (spSame K 0) := by
  refine F.ok scSame (fun vs H Q E h => ?_) (fun cdv A outer s H vs Q E hr h => ?_)
  · obtain ⟨x, y, rfl, _⟩ := h; rfl
  · obtain ⟨x, y, rfl, ⟨rfl, hv⟩, q⟩ := h
    refine ⟨_, (pss_cons (ps_if (pt_cmpR op_isN (pv 1) pe_non (nomark _)) (pss_one ps_never) pss_nil)
      (pss_cons (ps_if (pt_val (pe_callB call_isi (by rfl) B.isi (by decide +kernel) (pa_cons (pv 1) (pa_cons (pe_bltn (v := .ty "str") (by rfl) B.str (by decide +kernel) rfl) pa_nil))))
      (pss_one (ps_ret (pe_and (pe_callB call_isi (by rfl) B.isi (by decide +kernel) (pa_cons (pv 0) (pa_cons (pe_bltn (v := .ty "str") (by rfl) B.str (by decide +kernel) rfl) pa_nil))) (pe_one (pe_cmpR op_eq (pv 0) (pv 1) (nomark _))))))
      pss_nil)
      (pss_cons (ps_if (pt_val (pe_callB call_isi (by rfl) B.isi (by decide +kernel) (pa_cons (pv 1) (pa_cons (pe_bltn (v := .ty "int") (by rfl) B.int (by decide +kernel) rfl) pa_nil))))
      (pss_one (ps_ret (pe_and (pe_callB call_isi (by rfl) B.isi (by decide +kernel) (pa_cons (pv 0) (pa_cons (pe_bltn (v := .ty "int") (by rfl) B.int (by decide +kernel) rfl) pa_nil))) (pe_and (pe_not (pe_callB call_isi (by rfl) B.isi (by decide +kernel) (pa_cons (pv 0) (pa_cons (pe_bltn (v := .ty "bool") (by rfl) B.bool (by decide +kernel) rfl) pa_nil)))) (pe_one (pe_cmpR op_eq (pv 0) (pv 1) (nomark _)))))))
      pss_nil)
      (pss_cons ps_never (pss_cons ps_never (pss_cons ps_never (pss_one ps_never))))))), ?_⟩
    rcases hv with ⟨z, rfl⟩ | ⟨i, rfl⟩
    · refine ⟨.str z, rfl, rfl, _, rfl, iteF ?_⟩
      refine ⟨.str z, rfl, .str z, .ty "str", .type "str", .type "str", true, rfl, .ty "str", ty_txt, kit_ty (by decide +kernel), _, rfl, iteT ?_⟩
      refine ⟨.str z, rfl, .str z, .ty "str", .type "str", .type "str", true, rfl, .ty "str", ty_txt, kit_ty (by decide +kernel), _, rfl, iteT ?_⟩
      refine ⟨.str z, rfl, .str z, rfl, rfl, ?_⟩
      rw [decide_eq_true rfl]; exact q
    · refine ⟨.int i, rfl, rfl, _, rfl, iteF ?_⟩
      refine ⟨.int i, rfl, .int i, .ty "str", .type "int", .type "str", false, rfl, .ty "str", .base (.int i), kit_ty (by decide +kernel), _, rfl, iteF ?_⟩
      refine ⟨.int i, rfl, .int i, .ty "int", .type "int", .type "int", true, rfl, .ty "int", .base (.int i), kit_ty (by decide +kernel), _, rfl, iteT ?_⟩
      refine ⟨.int i, rfl, .int i, .ty "int", .type "int", .type "int", true, rfl, .ty "int", .base (.int i), kit_ty (by decide +kernel), _, rfl, iteT ?_⟩
      refine ⟨.int i, rfl, .int i, .ty "bool", .type "int", .type "bool", false, rfl, .ty "bool", .base (.int i), kit_ty (by decide +kernel), _, rfl, _, rfl, iteT ?_⟩
      refine ⟨.int i, rfl, .int i, rfl, rfl, ?_⟩
      rw [decide_eq_true rfl]; exact q
theorem ok_same1 {n : Nat} {f_same : Addr} {fd_same : FuncData} (B : Blt mg) (F_same : Fun K "_law_same" "_law_same" sSame f_same fd_same) (b_same : Binds K fd_same ["_law_one", "_law_two"] []) (g_same : mg "_law_same" = some (.ref f_same))
    (G_same : FnOk P w K mg base CX0 (n + 1) f_same fd_same ["_law_one", "_law_two"] (spSame K n)) : FnOk P w K mg base CX0 (n + 2) f_same fd_same ["_law_one", "_law_two"] (spSame K (n + 1)) := by
  refine F_same.ok scSame (fun vs H Q E h => ?_) (fun cdv A outer s H vs Q E hr h => ?_)
  · obtain ⟨x, y, rfl, _⟩ := h; rfl
  · obtain ⟨x, y, rfl, hv, q⟩ := h
    refine ⟨_, (pss_cons (ps_if (pt_cmpR op_isN (pv 1) pe_non (nomark _)) (pss_one ps_never) pss_nil)
      (pss_cons (ps_if (pt_val (pe_callB call_isi (by rfl) B.isi (by decide +kernel) (pa_cons (pv 1) (pa_cons (pe_bltn (v := .ty "str") (by rfl) B.str (by decide +kernel) rfl) pa_nil))))
      (pss_one (ps_ret (pe_and (pe_callB call_isi (by rfl) B.isi (by decide +kernel) (pa_cons (pv 0) (pa_cons (pe_bltn (v := .ty "str") (by rfl) B.str (by decide +kernel) rfl) pa_nil))) (pe_one (pe_cmpR op_eq (pv 0) (pv 1) (nomark _))))))
      pss_nil)
      (pss_cons (ps_if (pt_val (pe_callB call_isi (by rfl) B.isi (by decide +kernel) (pa_cons (pv 1) (pa_cons (pe_bltn (v := .ty "int") (by rfl) B.int (by decide +kernel) rfl) pa_nil))))
      (pss_one (ps_ret (pe_and (pe_callB call_isi (by rfl) B.isi (by decide +kernel) (pa_cons (pv 0) (pa_cons (pe_bltn (v := .ty "int") (by rfl) B.int (by decide +kernel) rfl) pa_nil))) (pe_and (pe_not (pe_callB call_isi (by rfl) B.isi (by decide +kernel) (pa_cons (pv 0) (pa_cons (pe_bltn (v := .ty "bool") (by rfl) B.bool (by decide +kernel) rfl) pa_nil)))) (pe_one (pe_cmpR op_eq (pv 0) (pv 1) (nomark _)))))))
      pss_nil)
      (pss_cons (ps_if (PW.pt (pw_or (pt_cmpR op_ne (pe_callB call_isi (by rfl) B.isi (by decide +kernel) (pa_cons (pv 1) (pa_cons (pe_bltn (v := .ty "tuple") (by rfl) B.tuple (by decide +kernel) rfl) pa_nil))) (pe_callB call_isi (by rfl) B.isi (by decide +kernel) (pa_cons (pv 0) (pa_cons (pe_bltn (v := .ty "tuple") (by rfl) B.tuple (by decide +kernel) rfl) pa_nil))) (nomark _)) (pw_or1 (pt_cmpR op_ne (pe_callB call_isi (by rfl) B.isi (by decide +kernel) (pa_cons (pv 1) (pa_cons (pe_bltn (v := .ty "list") (by rfl) B.list (by decide +kernel) rfl) pa_nil))) (pe_callB call_isi (by rfl) B.isi (by decide +kernel) (pa_cons (pv 0) (pa_cons (pe_bltn (v := .ty "list") (by rfl) B.list (by decide +kernel) rfl) pa_nil))) (nomark _))))) (pss_one ps_never) pss_nil)
      (pss_cons (ps_if (pt_cmpR op_ne (pe_callB call_len (by rfl) B.len PySem.boot_len (pa_cons (pv 0) pa_nil)) (pe_callB call_len (by rfl) B.len PySem.boot_len (pa_cons (pv 1) pa_nil)) (nomark _)) (pss_one (ps_ret pe_bl)) pss_nil)
      (pss_cons (ps_for (PassesOwn.never) rfl (pi_range1 (by rfl) B.range (pa_cons (pe_callB call_len (by rfl) B.len PySem.boot_len (pa_cons (pv 1) pa_nil)) pa_nil)) (pg_name (i := 2) scSame.nd rfl (.inl rfl))
        (pss_one (ps_if (pt_not (pt_val (pe_call G_same hr (by rfl) g_same F_same.kp b_same .nil pass0 (pa_cons (pe_ix (ix_list.or ix_tup) (pv 0) (pv 2) (fun _ _ => rfl)) (pa_cons (pe_ix (ix_list.or ix_tup) (pv 1) (pv 2) (fun _ _ => rfl)) pa_nil)))))
         (pss_one (ps_ret pe_bl))
         pss_nil)))
       (pss_one (ps_ret pe_bl)))))))), ?_⟩
    rcases hv with ⟨rfl, hv⟩ | ⟨a, b, xs, ys, rfl, rfl, ⟨ha, hb⟩ | ⟨ha, hb⟩, hle, hx, hall⟩
    · rcases hv with ⟨z, rfl⟩ | ⟨i, rfl⟩
      · refine ⟨.str z, rfl, rfl, _, rfl, iteF ?_⟩
        refine ⟨.str z, rfl, .str z, .ty "str", .type "str", .type "str", true, rfl, .ty "str", ty_txt, kit_ty (by decide +kernel), _, rfl, iteT ?_⟩
        refine ⟨.str z, rfl, .str z, .ty "str", .type "str", .type "str", true, rfl, .ty "str", ty_txt, kit_ty (by decide +kernel), _, rfl, iteT ?_⟩
        refine ⟨.str z, rfl, .str z, rfl, rfl, ?_⟩
        rw [decide_eq_true rfl]; exact q
      · refine ⟨.int i, rfl, rfl, _, rfl, iteF ?_⟩
        refine ⟨.int i, rfl, .int i, .ty "str", .type "int", .type "str", false, rfl, .ty "str", .base (.int i), kit_ty (by decide +kernel), _, rfl, iteF ?_⟩
        refine ⟨.int i, rfl, .int i, .ty "int", .type "int", .type "int", true, rfl, .ty "int", .base (.int i), kit_ty (by decide +kernel), _, rfl, iteT ?_⟩
        refine ⟨.int i, rfl, .int i, .ty "int", .type "int", .type "int", true, rfl, .ty "int", .base (.int i), kit_ty (by decide +kernel), _, rfl, iteT ?_⟩
        refine ⟨.int i, rfl, .int i, .ty "bool", .type "int", .type "bool", false, rfl, .ty "bool", .base (.int i), kit_ty (by decide +kernel), _, rfl, _, rfl, iteT ?_⟩
        refine ⟨.int i, rfl, .int i, rfl, rfl, ?_⟩
        rw [decide_eq_true rfl]; exact q
    · refine ⟨.ref b, rfl, rfl, _, rfl, iteF ?_⟩
      refine ⟨.ref b, rfl, .ref b, .ty "str", .type "list", .type "str", false, rfl, .ty "str", ty_lst hb, kit_ty (by decide +kernel), _, rfl, iteF ?_⟩
      refine ⟨.ref b, rfl, .ref b, .ty "int", .type "list", .type "int", false, rfl, .ty "int", ty_lst hb, kit_ty (by decide +kernel), _, rfl, iteF ?_⟩
      refine ⟨.ref b, rfl, .ref b, .ty "tuple", .type "list", .type "tuple", false, rfl, .ty "tuple", ty_lst hb, kit_ty (by decide +kernel), .ref a, rfl, .ref a, .ty "tuple", .type "list", .type "tuple", false, rfl, .ty "tuple", ty_lst ha, kit_ty (by decide +kernel), rfl, _, rfl, ?_⟩
      rw [decide_eq_true rfl]; refine iteF ?_
      refine ⟨.ref b, rfl, .ref b, .ty "list", .type "list", .type "list", true, rfl, .ty "list", ty_lst hb, kit_ty (by decide +kernel), .ref a, rfl, .ref a, .ty "list", .type "list", .type "list", true, rfl, .ty "list", ty_lst ha, kit_ty (by decide +kernel), rfl, _, rfl, ?_⟩
      rw [decide_eq_true rfl]; refine iteF ?_
      refine ⟨.ref a, rfl, .ref a, xs.length, rfl, .inl ⟨_, SqL.of ha, rfl⟩, .ref b, rfl, .ref b, ys.length, rfl, .inl ⟨_, SqL.of hb, rfl⟩, rfl, _, rfl, ?_⟩
      rw [hle, decide_eq_true rfl]
      refine iteF ⟨.ref b, rfl, .ref b, ys.length, rfl, .inl ⟨_, SqL.of hb, rfl⟩, (ys.length : Int), rfl, by omega, by omega, ?_⟩
      rw [Int.toNat_natCast]
      refine for_range (lo := 0) (n := ys.length) (fun n σ H' => ∃ y, σ = [some (.ref a), some (.ref b), y] ∧ H' = H) ⟨none, rfl, rfl⟩ ?_ ?_
      · rintro k σ H' hk ⟨y, rfl, rfl⟩
        have e0 : (0 : Int) + (k : Int) = (k : Int) := by omega
        rw [e0]
        have g1 : xs[k]? = some (xs[k]'(by omega)) := by simp
        have g2 : ys[k]? = some (ys[k]'hk) := by simp
        refine ⟨.ref a, rfl, .int (k : Int), rfl, .inl ⟨a, xs, (k : Int), _, rfl, rfl, SqL.of ha, atI_nat g1, .ref b, rfl, .int (k : Int), rfl, .inl ⟨b, ys, (k : Int), _, rfl, rfl, SqL.of hb, atI_nat g2, ?_⟩⟩⟩
        exact ⟨_, _, rfl, hall k _ _ g1 g2, true, rfl, iteF ⟨_, rfl, rfl⟩⟩
      · rintro σ H' ⟨y, rfl, rfl⟩
        exact q
    · refine ⟨.ref b, rfl, rfl, _, rfl, iteF ?_⟩
      refine ⟨.ref b, rfl, .ref b, .ty "str", .type "tuple", .type "str", false, rfl, .ty "str", ty_TA hb, kit_ty (by decide +kernel), _, rfl, iteF ?_⟩
      refine ⟨.ref b, rfl, .ref b, .ty "int", .type "tuple", .type "int", false, rfl, .ty "int", ty_TA hb, kit_ty (by decide +kernel), _, rfl, iteF ?_⟩
      refine ⟨.ref b, rfl, .ref b, .ty "tuple", .type "tuple", .type "tuple", true, rfl, .ty "tuple", ty_TA hb, kit_ty (by decide +kernel), .ref a, rfl, .ref a, .ty "tuple", .type "tuple", .type "tuple", true, rfl, .ty "tuple", ty_TA ha, kit_ty (by decide +kernel), rfl, _, rfl, ?_⟩
      rw [decide_eq_true rfl]; refine iteF ?_
      refine ⟨.ref b, rfl, .ref b, .ty "list", .type "tuple", .type "list", false, rfl, .ty "list", ty_TA hb, kit_ty (by decide +kernel), .ref a, rfl, .ref a, .ty "list", .type "tuple", .type "list", false, rfl, .ty "list", ty_TA ha, kit_ty (by decide +kernel), rfl, _, rfl, ?_⟩
      rw [decide_eq_true rfl]; refine iteF ?_
      refine ⟨.ref a, rfl, .ref a, xs.length, rfl, .inr ⟨_, ha.sq, rfl⟩, .ref b, rfl, .ref b, ys.length, rfl, .inr ⟨_, hb.sq, rfl⟩, rfl, _, rfl, ?_⟩
      rw [hle, decide_eq_true rfl]
      refine iteF ⟨.ref b, rfl, .ref b, ys.length, rfl, .inr ⟨_, hb.sq, rfl⟩, (ys.length : Int), rfl, by omega, by omega, ?_⟩
      rw [Int.toNat_natCast]
      refine for_range (lo := 0) (n := ys.length) (fun n σ H' => ∃ y, σ = [some (.ref a), some (.ref b), y] ∧ H' = H) ⟨none, rfl, rfl⟩ ?_ ?_
      · rintro k σ H' hk ⟨y, rfl, rfl⟩
        have e0 : (0 : Int) + (k : Int) = (k : Int) := by omega
        rw [e0]
        have g1 : xs[k]? = some (xs[k]'(by omega)) := by simp
        have g2 : ys[k]? = some (ys[k]'hk) := by simp
        refine ⟨.ref a, rfl, .int (k : Int), rfl, .inr ⟨a, xs, (k : Int), _, rfl, rfl, ha.sq, atI_nat g1, .ref b, rfl, .int (k : Int), rfl, .inr ⟨b, ys, (k : Int), _, rfl, rfl, hb.sq, atI_nat g2, ?_⟩⟩⟩
        exact ⟨_, _, rfl, hall k _ _ g1 g2, true, rfl, iteF ⟨_, rfl, rfl⟩⟩
      · rintro σ H' ⟨y, rfl, rfl⟩
        exact q
theorem ok_same {f_same : Addr} {fd_same : FuncData} (B : Blt mg) (F_same : Fun K "_law_same" "_law_same" sSame f_same fd_same) (b_same : Binds K fd_same ["_law_one", "_law_two"] []) (g_same : mg "_law_same" = some (.ref f_same)) :
    ∀ n, FnOk P w K mg base CX0 (n + 1) f_same fd_same ["_law_one", "_law_two"] (spSame K n)
  | 0 => ok_same0 B F_same
  | n + 1 => ok_same1 B F_same b_same g_same (ok_same B F_same b_same g_same n)
/-! ### the errors -/
def spEI (K : PySem.W.Frag) (C : Addr) (fld : Str) : Sp := fun vs H Q _ => ∃ (a : Addr) (v : V), vs = [.ref a, v] ∧ H a = some (exo a C none) ∧ OexC K C ∧ PySem.W.findIn K (.ref C) fld = some none ∧
  ∀ d, H d = none → d ≠ a → Q .non (upd (upd H d (exd d [(fld, v)])) a (exo a C (some d)))
theorem heap_err {H : Hp} {a d C : Addr} {v : V} {fld : Str} (ha : H a = none) (hd : H d = none) (hne : d ≠ a) :
    upd (del (upd (upd (upd H a (exo a C none)) d (exd d [(fld, v)])) a (exo a C (some d))) a) d (.xd [(fld, v)]) = upd H d (.xd [(fld, v)]) := by
  funext b
  by_cases h1 : b = d
  · subst h1; rw [upd_same, upd_same]
  · rw [upd_ne h1, upd_ne h1]
    by_cases h2 : b = a
    · subst h2; rw [del_same, ha]
    · rw [del_ne h2, upd_ne h2, upd_ne h1, upd_ne h2]
theorem raise_err {C : Addr} {v : V} {H : Hp} {Q : XK} {fld : Str} (o : OexC K C) (fp : PySem.W.findIn K (.ref C) fld = some none) (q : ∀ d, H d = none → Q (.ref C) (some d) (upd H d (.xd [(fld, v)]))) :
    [v].length ≤ 1000 ∧ ∀ a, H a = none → spEI K C fld (.ref a :: ([v] ++ [])) (upd H a (exo a C none))
      (fun u H2 => u = .non ∧ ∃ (d : Addr) (fs : List (Str × V)), H2 a = some (exo a C (some d)) ∧ H2 d = some (exd d fs) ∧ H d = none ∧ Q (.ref C) (some d) (upd (del H2 a) d (.xd fs))) (fun _ _ _ => False) := by
  refine ⟨by show 1 ≤ 1000; decide, fun a ha => ⟨a, v, rfl, upd_same, o, fp, fun d h1 hne => ⟨rfl, d, [(fld, v)], upd_same, ?_, ?_, ?_⟩⟩⟩
  · rw [upd_ne hne, upd_same]
  · rw [upd_ne hne] at h1; exact h1
  · rw [upd_ne hne] at h1
    rw [heap_err ha h1 hne]; exact q d h1

theorem scTkI : FnScope ["self", "kind"] ["self", "kind"] (defScope sTakenI) := ⟨rfl, rfl, rfl, by decide +kernel, rfl, by decide +kernel, by decide +kernel⟩
structure TkE (K : PySem.W.Frag) (mg : Str → Option Value) (C fI : Addr) (fd : FuncData) : Prop where
  gC : mg "Taken" = some (.ref C)
  oex : OexC K C
  fp : PySem.W.findIn K (.ref C) "kind" = some none
  iC : PySem.W.findIn K (.ref C) "__init__" = some (some (.ref fI))
  tI : PySem.W.typeIn K (.ref fI) = some (.type "function")
  F : Fun K "__init__" "Taken.__init__" sTakenI fI fd
  b : Binds K fd ["self", "kind"] []
def spTkI (K : PySem.W.Frag) (C : Addr) : Sp := spEI K C "kind"
theorem ok_TkI {f C : Addr} {fd : FuncData} (F : Fun K "__init__" "Taken.__init__" sTakenI f fd) : FnOk P w K mg base CX0 1 f fd ["self", "kind"] (spTkI K C) := by
  refine F.ok scTkI (fun vs H Q E h => ?_) (fun cdv A outer s H vs Q E hr h => ?_)
  · obtain ⟨a, v, rfl, _⟩ := h; rfl
  · obtain ⟨a, v, rfl, ha, o, fp, q⟩ := h
    refine ⟨_, pss_one (ps_ost (pv 0) (pv 1)), ?_⟩
    exact ⟨_, rfl, _, rfl, a, C, rfl, o, fp, .inl ⟨ha, fun dx h1 h2 => q dx h1 h2⟩⟩

theorem scUnI : FnScope ["self", "kind"] ["self", "kind"] (defScope sUnknownI) := ⟨rfl, rfl, rfl, by decide +kernel, rfl, by decide +kernel, by decide +kernel⟩
structure UnE (K : PySem.W.Frag) (mg : Str → Option Value) (C fI : Addr) (fd : FuncData) : Prop where
  gC : mg "Unknown" = some (.ref C)
  oex : OexC K C
  fp : PySem.W.findIn K (.ref C) "kind" = some none
  iC : PySem.W.findIn K (.ref C) "__init__" = some (some (.ref fI))
  tI : PySem.W.typeIn K (.ref fI) = some (.type "function")
  F : Fun K "__init__" "Unknown.__init__" sUnknownI fI fd
  b : Binds K fd ["self", "kind"] []
def spUnI (K : PySem.W.Frag) (C : Addr) : Sp := spEI K C "kind"
theorem ok_UnI {f C : Addr} {fd : FuncData} (F : Fun K "__init__" "Unknown.__init__" sUnknownI f fd) : FnOk P w K mg base CX0 1 f fd ["self", "kind"] (spUnI K C) := by
  refine F.ok scUnI (fun vs H Q E h => ?_) (fun cdv A outer s H vs Q E hr h => ?_)
  · obtain ⟨a, v, rfl, _⟩ := h; rfl
  · obtain ⟨a, v, rfl, ha, o, fp, q⟩ := h
    refine ⟨_, pss_one (ps_ost (pv 0) (pv 1)), ?_⟩
    exact ⟨_, rfl, _, rfl, a, C, rfl, o, fp, .inl ⟨ha, fun dx h1 h2 => q dx h1 h2⟩⟩

theorem scMiI : FnScope ["self", "kind"] ["self", "kind"] (defScope sMisfitI) := ⟨rfl, rfl, rfl, by decide +kernel, rfl, by decide +kernel, by decide +kernel⟩
structure MiE (K : PySem.W.Frag) (mg : Str → Option Value) (C fI : Addr) (fd : FuncData) : Prop where
  gC : mg "Misfit" = some (.ref C)
  oex : OexC K C
  fp : PySem.W.findIn K (.ref C) "kind" = some none
  iC : PySem.W.findIn K (.ref C) "__init__" = some (some (.ref fI))
  tI : PySem.W.typeIn K (.ref fI) = some (.type "function")
  F : Fun K "__init__" "Misfit.__init__" sMisfitI fI fd
  b : Binds K fd ["self", "kind"] []
def spMiI (K : PySem.W.Frag) (C : Addr) : Sp := spEI K C "kind"
theorem ok_MiI {f C : Addr} {fd : FuncData} (F : Fun K "__init__" "Misfit.__init__" sMisfitI f fd) : FnOk P w K mg base CX0 1 f fd ["self", "kind"] (spMiI K C) := by
  refine F.ok scMiI (fun vs H Q E h => ?_) (fun cdv A outer s H vs Q E hr h => ?_)
  · obtain ⟨a, v, rfl, _⟩ := h; rfl
  · obtain ⟨a, v, rfl, ha, o, fp, q⟩ := h
    refine ⟨_, pss_one (ps_ost (pv 0) (pv 1)), ?_⟩
    exact ⟨_, rfl, _, rfl, a, C, rfl, o, fp, .inl ⟨ha, fun dx h1 h2 => q dx h1 h2⟩⟩

end
end
end K05

set_option maxRecDepth 100000
set_option maxHeartbeats 4000000
namespace K05
open PySem PySem.Spec PyProof.Rows L2
abbrev T (x : String) : Str := Str.ofString x
/-! ### what may stand in what -/
def roles : List Str := [T "root", T "block", T "head", T "span", T "note", T "figure", T "ref"]
def inner (r : Str) : List Str := if r = T "root" then [T "block", T "head"] else if r = T "block" then [T "span", T "note", T "figure", T "ref"] else if r = T "head" ∨ r = T "span" then [T "span", T "ref"] else if r = T "note" ∨ r = T "figure" then [T "span"] else []
def may (o i : Str) : Bool := decide (i ∈ inner o)
/-! ### signs -/
def okS (z : Str) : Prop := ∀ c ∈ tl z, c < 1114112
theorem okS_lay {z : Str} (h : okS z) : PyData.canLay0 (.str z) = true := by
  show z.cps.all (· < 0x110000) = true
  rw [Array.all_eq_true_iff_forall_mem]
  intro x hx
  exact decide_eq_true (h x (by simpa [tl] using hx))
theorem okS_roles : ∀ r ∈ roles, okS r := by unfold okS; decide +kernel
/-! ### rows of a grammar -/
/-- a row: its tuple's address, its kind, its role, its inner kinds' address, its inner kinds -/
structure Rw where
  t : Addr
  k : Str
  r : Str
  i : Addr
  ins : List Str
abbrev ks (rs : List Rw) : List Str := rs.map (·.k)
def rv (rs : List Rw) : List V := rs.map fun r => V.ref r.t
def InsV (K : PySem.W.Frag) (H : Hp) (r : Rw) : Prop := TA K H r.i (r.ins.map V.str) ∧ r.ins.length ≤ 100 ∧ (∀ x ∈ r.ins, okS x) ∧ r.r ∈ roles ∧ okS r.k
def RowT (K : PySem.W.Frag) (H : Hp) (r : Rw) : Prop := TA K H r.t [.str r.k, .str r.r, .ref r.i] ∧ InsV K H r
theorem InsV.kp {K : PySem.W.Frag} {H H' : Hp} {r : Rw} (h : InsV K H r) (s : Kp H H') : InsV K H' r := ⟨h.1.kp s, h.2⟩
theorem RowT.kp {K : PySem.W.Frag} {H H' : Hp} {r : Rw} (h : RowT K H r) (s : Kp H H') : RowT K H' r := ⟨h.1.kp s, h.2.kp s⟩
theorem rv_at {rs : List Rw} {i : Nat} {r : Rw} (h : rs[i]? = some r) : (rv rs)[i]? = some (.ref r.t) := by unfold rv; rw [List.getElem?_map, h]; rfl
theorem rv_len (rs : List Rw) : (rv rs).length = rs.length := by unfold rv; rw [List.length_map]
/-- rows in a list at a -/
def RowsAt (K : PySem.W.Frag) (H : Hp) (a : Addr) (rs : List Rw) : Prop := H a = some (.lst (rv rs)) ∧ ∀ r ∈ rs, RowT K H r
theorem RowsAt.same {K : PySem.W.Frag} {H H' : Hp} {a : Addr} {rs : List Rw} (h : RowsAt K H a rs) (s : Same H H') : RowsAt K H' a rs := ⟨s _ _ h.1, fun r hr => (h.2 r hr).kp (.of s)⟩
/-! ### what is due -/
inductive Du
  | good
  | taken (c : Str)
  | unknown (c : Str)
  | misfit (c : Str)
def Du.tag : Du → Str
  | .good => T "good"
  | .taken _ => T "taken"
  | .unknown _ => T "unknown"
  | .misfit _ => T "misfit"
def Du.kind : Du → Str
  | .good => T ""
  | .taken c => c
  | .unknown c => c
  | .misfit c => c
def Du.bad : Du → Bool
  | .good => false
  | _ => true
def Du.cls (CT CU CM : Addr) : Du → Addr
  | .good => CT
  | .taken _ => CT
  | .unknown _ => CU
  | .misfit _ => CM
/-- the first kind that has been -/
def takenF : List Str → List Str → Option Str
  | _, [] => none
  | seen, c :: l => if c ∈ seen then some c else takenF (seen ++ [c]) l
theorem takenF_at {l : List Str} {i : Nat} {c : Str} (h : l[i]? = some c) : takenF (l.take i) (l.drop i) = if c ∈ l.take i then some c else takenF (l.take (i + 1)) (l.drop (i + 1)) := by
  obtain ⟨hl, e⟩ := List.getElem?_eq_some_iff.mp h
  rw [List.drop_eq_getElem_cons hl, e]
  have e2 : l.take (i + 1) = l.take i ++ [c] := by rw [List.take_add_one, h]; rfl
  rw [e2]; rfl
def roleOf (rs : List Rw) (k : Str) : Option Str := (rs.find? fun r => decide (r.k = k)).map (·.r)
def innF (rs : List Rw) (o : Str) : List Str → Du
  | [] => .good
  | c :: l => match roleOf rs c with
    | none => .unknown c
    | some r => if may o r = true then innF rs o l else .misfit c
def rowsF (rs : List Rw) : List Rw → Du
  | [] => .good
  | r :: l => match innF rs r.r r.ins with
    | .good => rowsF rs l
    | d => d
theorem innF_at {rs : List Rw} {o : Str} {l : List Str} {i : Nat} {c : Str} (h : l[i]? = some c) : innF rs o (l.drop i) = match roleOf rs c with
    | none => .unknown c
    | some r => if may o r = true then innF rs o (l.drop (i + 1)) else .misfit c := by
  obtain ⟨hl, e⟩ := List.getElem?_eq_some_iff.mp h
  rw [List.drop_eq_getElem_cons hl, e]; rfl
theorem rowsF_at {rs l : List Rw} {i : Nat} {r : Rw} (h : l[i]? = some r) : rowsF rs (l.drop i) = match innF rs r.r r.ins with
    | .good => rowsF rs (l.drop (i + 1))
    | d => d := by
  obtain ⟨hl, e⟩ := List.getElem?_eq_some_iff.mp h
  rw [List.drop_eq_getElem_cons hl, e]; rfl
def dueOf (top : Str) (rs : List Rw) : Du := match takenF [] (ks rs) with
  | some c => .taken c
  | none => match roleOf rs top with
    | none => .unknown top
    | some r => if r = T "root" then rowsF rs rs else .misfit top
theorem roleOf_none {rs : List Rw} {c : Str} : roleOf rs c = none ↔ c ∉ ks rs := by
  unfold roleOf
  rw [Option.map_eq_none_iff, List.find?_eq_none]
  constructor
  · intro h m
    obtain ⟨r, hr, e⟩ := List.mem_map.mp m
    exact h r hr (decide_eq_true e)
  · intro h r hr e
    exact h (List.mem_map.mpr ⟨r, hr, of_decide_eq_true e⟩)
theorem roleOf_mem {rs : List Rw} {c r : Str} (h : roleOf rs c = some r) : ∃ x ∈ rs, x.k = c ∧ x.r = r := by
  unfold roleOf at h
  obtain ⟨x, hx, e⟩ := Option.map_eq_some_iff.mp h
  exact ⟨x, List.mem_of_find?_eq_some hx, of_decide_eq_true (List.find?_some (p := fun r : Rw => decide (r.k = c)) hx), e⟩
/-! ### what a grammar holds -/
abbrev Ent := Rw × Addr
def kvE (es : List Ent) : List (Key × V) := es.map fun e => ((Sum.inr e.1.k : Key), V.ref e.2)
def EntOk (K : PySem.W.Frag) (H : Hp) (e : Ent) : Prop := H e.2 = some (.tup [.str e.1.r, .ref e.1.i]) ∧ InsV K H e.1
theorem EntOk.kp {K : PySem.W.Frag} {H H' : Hp} {e : Ent} (h : EntOk K H e) (s : Kp H H') : EntOk K H' e := ⟨s.tup h.1, h.2.kp s⟩
theorem kvE_len (es : List Ent) : (kvE es).length = es.length := by unfold kvE; rw [List.length_map]
theorem key_inj {a b : Str} : ((Sum.inr a : Key) = Sum.inr b) ↔ a = b := by
  constructor
  · intro h; injection h
  · intro h; rw [h]
theorem valE (c : Str) : ∀ es : List Ent, valV (kvE es) (Sum.inr c) = (es.find? fun e => decide (e.1.k = c)).map fun e => V.ref e.2
  | [] => rfl
  | e :: es => by
    show valV (((Sum.inr e.1.k : Key), V.ref e.2) :: kvE es) _ = _
    by_cases h : e.1.k = c
    · rw [valV_pos (key_inj.mpr h), List.find?_cons, decide_eq_true h]; rfl
    · rw [valV_neg (fun z => h (key_inj.mp z)), List.find?_cons, decide_eq_false h]; exact valE c es
theorem valE_some (c : Str) (es : List Ent) : (valV (kvE es) (Sum.inr c)).isSome = decide (c ∈ ks (es.map (·.1))) := by
  rw [valE, Option.isSome_map]
  induction es with
  | nil => rfl
  | cons e es ih =>
    rw [List.find?_cons]
    by_cases h : e.1.k = c
    · rw [decide_eq_true h]
      symm; refine decide_eq_true ?_
      simp [ks, h]
    · rw [decide_eq_false h]
      show (es.find? _).isSome = _
      rw [ih]
      refine decide_eq_decide.mpr ⟨fun m => List.mem_cons_of_mem _ m, fun m => ?_⟩
      rcases List.mem_cons.mp m with q | q
      · exact absurd q.symm h
      · exact q
theorem find_ent (c : Str) (es : List Ent) : (es.map (·.1)).find? (fun r => decide (r.k = c)) = (es.find? fun e => decide (e.1.k = c)).map (·.1) := by
  rw [List.find?_map]; rfl
theorem roleE (c : Str) (es : List Ent) : roleOf (es.map (·.1)) c = (es.find? fun e => decide (e.1.k = c)).map fun e => e.1.r := by
  unfold roleOf
  rw [find_ent, Option.map_map]; rfl
/-- .. the law's own dict of kinds and roles -/
def kvR (rs : List Rw) : List (Key × V) := rs.map fun r => ((Sum.inr r.k : Key), V.str r.r)
theorem kvR_len (rs : List Rw) : (kvR rs).length = rs.length := by unfold kvR; rw [List.length_map]
theorem valR (c : Str) : ∀ rs : List Rw, valV (kvR rs) (Sum.inr c) = (roleOf rs c).map V.str
  | [] => rfl
  | r :: rs => by
    show valV (((Sum.inr r.k : Key), V.str r.r) :: kvR rs) _ = _
    unfold roleOf
    by_cases h : r.k = c
    · rw [valV_pos (key_inj.mpr h), List.find?_cons, decide_eq_true h]; rfl
    · rw [valV_neg (fun z => h (key_inj.mp z)), List.find?_cons, decide_eq_false h]; exact valR c rs
/-- a Grammar at p -/
def GA (K : PySem.W.Frag) (C : Addr) (H : Hp) (p : Addr) (top : Str) (rs : List Rw) : Prop := ∃ (dx d : Addr) (fs : List (Str × V)) (es : List Ent), H p = some (.ins C dx fs) ∧ fs.lookup ("root" : Str) = some (.str top) ∧ fs.lookup ("_rows" : Str) = some (.ref d) ∧
  H d = some (.dK (kvE es)) ∧ es.map (·.1) = rs ∧ (∀ e ∈ es, EntOk K H e)
theorem GA.same {K : PySem.W.Frag} {C : Addr} {H H' : Hp} {p : Addr} {top : Str} {rs : List Rw} (f : GA K C H p top rs) (s : Same H H') : GA K C H' p top rs :=
  let ⟨dx, d, fs, es, h1, h2, h3, h4, h5, h6⟩ := f; ⟨dx, d, fs, es, s _ _ h1, h2, h3, s _ _ h4, h5, fun e he => (h6 e he).kp (.of s)⟩
/-- .. when only lists have changed -/
theorem GA.but {K : PySem.W.Frag} {C : Addr} {H H' : Hp} {p g : Addr} {xs : List V} {top : Str} {rs : List Rw} (f : GA K C H p top rs) (hg : H g = some (.lst xs)) (s : ∀ x o, x ≠ g → H x = some o → H' x = some o) : GA K C H' p top rs := by
  obtain ⟨dx, d, fs, es, h1, h2, h3, h4, h5, h6⟩ := f
  have kp : Kp H H' := Kp.but hg (fun z => z) s
  exact ⟨dx, d, fs, es, s _ _ (ne_of h1 hg (fun z => nomatch z)) h1, h2, h3, s _ _ (ne_of h4 hg (fun z => nomatch z)) h4, h5, fun e he => (h6 e he).kp kp⟩
/-- the class -/
structure Gmr (K : PySem.W.Frag) (mg : Str → Option Value) (C : Addr) : Prop where
  cl : Cls K C
  n1 : NoAttr K C "root"
  n2 : NoAttr K C "_rows"
  mgC : mg "Grammar" = some (.ref C)
theorem inV_strs (z : Str) (l : List Str) : inV (.str z) (l.map V.str) = decide (z ∈ l) := by
  induction l with
  | nil => rfl
  | cons x l ih =>
    show (eqV (.str x) (.str z) || inV (.str z) (l.map V.str)) = _
    rw [ih]
    have e : eqV (.str x) (.str z) = decide (x = z) := by
      show (x == z) = _
      rw [Bool.eq_iff_iff, beq_iff_eq, decide_eq_true_iff]
    rw [e]
    by_cases h : x = z
    · rw [decide_eq_true h, Bool.true_or]; symm; exact decide_eq_true (by rw [h]; exact List.mem_cons_self)
    · rw [decide_eq_false h, Bool.false_or]
      refine decide_eq_decide.mpr ⟨fun m => List.mem_cons_of_mem _ m, fun m => ?_⟩
      rcases List.mem_cons.mp m with q | q
      · exact absurd q.symm h
      · exact q
theorem flat_strs (l : List Str) : (l.map V.str).all flatV = true := by
  induction l with
  | nil => rfl
  | cons x l ih => show (true && _) = true; rw [ih]; rfl
theorem upd_back {H : Hp} {d : Addr} {u x : HO} (h : H d = some u) : upd (upd H d x) d u = H := by
  funext b
  by_cases e : b = d
  · rw [e, upd_same, h]
  · rw [upd_ne e, upd_ne e]
end K05

set_option maxRecDepth 100000
set_option maxHeartbeats 8000000
namespace K05
open PySem PySem.Spec PyProof.Rows L2
/-- INNER_ROLES -/
structure Inn (K : PySem.W.Frag) (w : World) (RD : Addr) : Prop where
  kd : ∃ es n, KDict K w RD es n
  at_ : ∀ r ∈ roles, ∃ (a : Addr) (o : Obj) (its : Array Value) (n : Nat), PySem.W.nsIn K RD r = some (some (.ref a)) ∧ K.lookup a = some o ∧ o.cls = .type "tuple" ∧ o.data = .seq its n ∧ its.size ≤ sizeLine ∧ Vals ((inner r).map V.str) its.toList
theorem walk_valsK {d : Addr} {o : Obj} {kvs : List (Key × V)} : Walk (Itd d o kvs) kvs.length (fun H => H d = some (.frz o (.dK kvs))) (fun i H x H' => H' = H ∧ ∃ k, kvs[i]? = some (k, x)) :=
  ⟨fun _ _ hi h => ⟨h, hi⟩, fun _ h => ⟨h, Nat.le_refl _⟩, fun _ _ _ _ _ _ h => h⟩
theorem walk_keysK {d : Addr} {o : Obj} {kvs : List (Key × V)} : Walk (Itk d o kvs) kvs.length (fun H => H d = some (.frz o (.dK kvs))) (fun i H x H' => H' = H ∧ ∃ k v, kvs[i]? = some (k, v) ∧ x = kV k) :=
  ⟨fun _ _ hi h => ⟨h, hi⟩, fun _ h => ⟨h, Nat.le_refl _⟩, fun _ _ _ _ _ _ h => h⟩
theorem DGet.r {H : Hp} {a : Addr} {kvs : List (Key × V)} {k : Key} (e : Rd H a (.dK kvs)) : DGet H a (kV k) (valV kvs k) := .inl ⟨kvs, k, e, rfl, rfl⟩
section
variable {P : Program} {w : World} {K : PySem.W.Frag} {mg : Str → Option Value} {base : Heap} {t1 : Tok}
/-! ### _check_inner -/
def spChk (K : PySem.W.Frag) (CT CU CM : Addr) : Sp := fun vs H Q E => ∃ (d : Addr) (es : List Ent), vs = [.ref d] ∧ H d = some (.dK (kvE es)) ∧ (∀ e ∈ es, EntOk K H e) ∧ es.length ≤ 100 ∧
  ((rowsF (es.map (·.1)) (es.map (·.1))).bad = true → ∀ H1 d', (∀ b o, b ≠ d → H b = some o → H1 b = some o) → H1 d' = none → E (.ref ((rowsF (es.map (·.1)) (es.map (·.1))).cls CT CU CM)) (some d') (upd H1 d' (.xd [("kind", .str (rowsF (es.map (·.1)) (es.map (·.1))).kind)]))) ∧
  ((rowsF (es.map (·.1)) (es.map (·.1))).bad = false → Q .non H)
abbrev nCk : List Str := ["rows", "role", "inner", "kind"]
theorem scChk : FnScope nCk ["rows"] (defScope sCheckIn) := ⟨rfl, rfl, rfl, by decide +kernel, rfl, by decide +kernel, by decide +kernel⟩
theorem ok_chk {CT CU CM fU fM RD f : Addr} {fdU fdM fd : FuncData} (NU : UnE K mg CU fU fdU) (NM : MiE K mg CM fM fdM) (R : Inn K w RD) (gR : mg "INNER_ROLES" = some (.ref RD)) (F : Fun K "_check_inner" "_check_inner" sCheckIn f fd) :
    FnOk P w K mg base (L2N.CX P w) 3 f fd ["rows"] (spChk K CT CU CM) := by
  have GU : FnOk P w K mg base CX0 1 fU fdU ["self", "kind"] (spEI K CU "kind") := ok_UnI NU.F
  have GM : FnOk P w K mg base CX0 1 fM fdM ["self", "kind"] (spEI K CM "kind") := ok_MiI NM.F
  obtain ⟨kes, kn, KD⟩ := R.kd
  refine RN.okXN F scChk (fun vs H Q E h => ?_) (fun cdv A0 outer s H vs Q E hr h => ?_)
  · obtain ⟨d, es, rfl, _⟩ := h; rfl
  · obtain ⟨d, es, rfl, hd, hes, hl, qe, q⟩ := h
    have hr2 : Room 2 _ := hr
    refine ⟨_, (pss_one (ps_lock (ps_for (passes_of rfl) rfl (pi_values (pv 0)) (pg_tup rfl (pgs_cons (pg_name (i := 1) scChk.nd rfl (.inl rfl)) (pgs_cons (pg_name (i := 2) scChk.nd rfl (.inl rfl)) pgs_nil)))
      (pss_one (ps_for (passes_of rfl) rfl (pi_tup (pv 2)) (pg_name (i := 3) scChk.nd rfl (.inl rfl))
      (pss_cons (ps_if (pt_cmp (pc_dnotin (hu_of hr) (pv 3) (pv 0)))
        (pss_one (L2N.ps_raise rfl (L2N.takes_of rfl rfl rfl rfl) (RN.pmk_oexN NU.oex NU.iC NU.tI GU hr2 NU.b .nil pass0 (by rfl) NU.gC (pa_cons (pv 3) pa_nil))))
        pss_nil)
      (pss_one (ps_if (pt_cmpR op_notIn_seq (pe_ix ix_tup (pe_dget (hu_of hr) (pv 0) (pv 3) (fun _ _ => rfl)) pe_int (fun _ _ => rfl)) (pe_ix ix_kdict (pe_glob (v := .ref RD) (by rfl) gR rfl) (pv 1) (fun _ _ => rfl)) (by with_unfolding_all rfl))
        (pss_one (L2N.ps_raise rfl (L2N.takes_of rfl rfl rfl rfl) (RN.pmk_oexN NM.oex NM.iC NM.tI GM hr2 NM.b .nil pass0 (by rfl) NM.gC (pa_cons (pv 3) pa_nil))))
        pss_nil)))))))), ?_⟩
    refine ⟨d, .dK (kvE es), hd, True.intro, fun od => ?_⟩
    have hfz : (upd H d (.frz od (.dK (kvE es)))) d = some (.frz od (.dK (kvE es))) := upd_same
    have kp : Kp H (upd H d (.frz od (.dK (kvE es)))) := Kp.but hd (fun z => z) upd_but
    refine ⟨.ref d, rfl, d, od, kvE es, rfl, hfz, ?_⟩
    refine for_it walk_valsK (fun i σ H' => ∃ y1 y2 y3 : Option V, σ = [some (.ref d), y1, y2, y3] ∧ H' = upd H d (.frz od (.dK (kvE es))) ∧ rowsF (es.map (·.1)) (es.map (·.1)) = rowsF (es.map (·.1)) ((es.map (·.1)).drop i)) ⟨none, none, none, rfl, rfl, rfl⟩ (fun i σ H' _ ⟨_, _, _, _, e, _⟩ => by rw [e]; exact hfz) ?_ ?_
    · rintro i x σ H1 H2 hi ⟨y1, y2, y3, rfl, rfl, hF⟩ ⟨rfl, k, hk⟩
      unfold kvE at hk
      rw [List.getElem?_map] at hk
      cases en : es[i]? with
      | none => rw [en] at hk; cases hk
      | some e =>
      rw [en] at hk; cases hk
      have hat : (es.map (·.1))[i]? = some e.1 := by rw [List.getElem?_map, en]; rfl
      rw [rowsF_at hat] at hF
      obtain ⟨he1, he2, he3, he4, he5, he6⟩ := (hes e (List.mem_of_getElem? en)).kp kp
      refine ⟨e.2, _, rfl, SqT.of he1, rfl, _, _, rfl, _, _, rfl, rfl, ?_⟩
      refine ⟨.ref e.1.i, rfl, e.1.i, rfl, ⟨_, he2.sq⟩, for_tup (K := K) (a := e.1.i) (xs := e.1.ins.map V.str) (fun j σ H' => ∃ y3 : Option V, σ = [some (.ref d), some (.str e.1.r), some (.ref e.1.i), y3] ∧ H' = upd H d (.frz od (.dK (kvE es))) ∧ innF (es.map (·.1)) e.1.r e.1.ins = innF (es.map (·.1)) e.1.r (e.1.ins.drop j)) ⟨_, rfl, rfl, rfl⟩ (fun j σ H' _ ⟨_, _, e', _⟩ => by rw [e']; exact he2.sq) ?_ ?_⟩
      · rintro j x σ H' hj ⟨y3, rfl, rfl, hI⟩
        rw [List.getElem?_map] at hj
        cases ec : e.1.ins[j]? with
        | none => rw [ec] at hj; cases hj
        | some c =>
        rw [ec] at hj; cases hj
        rw [innF_at ec] at hI
        have fin : ∀ D : Du, innF (es.map (·.1)) e.1.r e.1.ins = D → D.bad = true → rowsF (es.map (·.1)) (es.map (·.1)) = D := fun D h1 h2 => by
          rw [hF, h1]
          cases D <;> first | rfl | cases h2
        refine ⟨.str c, rfl, .ref d, rfl, d, _, rfl, DGet.r (k := Sum.inr c) (.inr ⟨od, hfz⟩), _, rfl, ?_⟩
        have hrE := roleE c es
        have hv := valE c es
        cases hf0 : es.find? (fun e => decide (e.1.k = c)) with
        | none =>
          rw [hf0] at hrE hv
          have hD := fin (.unknown c) (by rw [hI, hrE]; rfl) rfl
          rw [hD] at qe
          rw [hv]
          refine iteT ⟨.str c, rfl, raise_err NU.oex NU.fp fun d2 hd2 => qe rfl _ d2 upd_but hd2⟩
        | some x =>
          rw [hf0] at hrE hv
          have hx := List.mem_of_find?_eq_some hf0
          obtain ⟨hx1, hx2, hx3, hx4, hx5, hx6⟩ := (hes x hx).kp kp
          obtain ⟨ta, to, tits, tn, k1, k2, k3, k4, k5, k6⟩ := R.at_ e.1.r he5
          rw [hv]
          refine iteF ?_
          have hdg : DGet (upd H d (.frz od (.dK (kvE es)))) d (V.str c) (some (V.ref x.2)) := by
            have := DGet.r (k := Sum.inr c) (a := d) (kvs := kvE es) (H := upd H d (.frz od (.dK (kvE es)))) (.inr ⟨od, hfz⟩)
            rw [hv] at this; exact this
          refine ⟨.ref d, rfl, .str c, rfl, d, .ref x.2, rfl, hdg, x.2, _, 0, .str x.1.r, rfl, rfl, SqT.of hx1, rfl, .str e.1.r, rfl, RD, e.1.r, .ref ta, rfl, rfl, ⟨kes, kn, .ref ta, KD.at_, KD.lit, k1, rfl⟩, ta, (inner e.1.r).map V.str, rfl, .inr (.inr ⟨to, tits, tn, k2, k3, k4, k5, k6⟩), rfl, flat_strs _, _, rfl, ?_⟩
          show (if (!inV _ _) = true then _ else _)
          rw [inV_strs]
          have hrE' : roleOf (es.map (·.1)) c = some x.1.r := hrE
          rw [hrE'] at hI
          refine ite2 (fun hb => ?_) (fun hb => ?_)
          · have hm : ¬ may e.1.r x.1.r = true := fun z => by rw [show may e.1.r x.1.r = decide (x.1.r ∈ inner e.1.r) from rfl] at z; rw [z] at hb; cases hb
            have hD := fin (.misfit c) (by rw [hI]; exact if_neg hm) rfl
            rw [hD] at qe
            exact ⟨.str c, rfl, raise_err NM.oex NM.fp fun d2 hd2 => qe rfl _ d2 upd_but hd2⟩
          · have hm : may e.1.r x.1.r = true := by
              rw [show may e.1.r x.1.r = decide (x.1.r ∈ inner e.1.r) from rfl]
              cases hz : decide (x.1.r ∈ inner e.1.r) with
              | true => rfl
              | false => rw [hz] at hb; exact absurd rfl hb
            exact ⟨_, rfl, rfl, by rw [hI]; exact if_pos hm⟩
      · rintro σ H' ⟨y3, rfl, rfl, hI⟩
        rw [List.length_map, List.drop_of_length_le (Nat.le_refl _)] at hI
        rw [hI] at hF
        exact ⟨_, _, _, rfl, rfl, hF⟩
    · rintro σ H' ⟨y1, y2, y3, rfl, rfl, hF⟩
      rw [kvE_len, List.drop_of_length_le (by rw [List.length_map]; exact Nat.le_refl _)] at hF
      refine ⟨hfz, ?_⟩
      rw [upd_back hd]
      exact q (by rw [hF]; rfl)
end
end K05

set_option maxRecDepth 100000
set_option maxHeartbeats 8000000
namespace K05
open PySem PySem.Spec PyProof.Rows L2
section
variable {P : Program} {w : World} {K : PySem.W.Frag} {mg : Str → Option Value} {base : Heap} {t1 : Tok}
/-! ### Grammar.__init__ -/
def spInit (K : PySem.W.Frag) (C CT CU CM : Addr) : Sp := fun vs H Q E => ∃ (p dx a : Addr) (top : Str) (rs : List Rw), vs = [.ref p, .str top, .ref a] ∧ H p = some (.ins C dx []) ∧ RowsAt K H a rs ∧ rs.length ≤ 100 ∧
  ((dueOf top rs).bad = true → ∀ H1 d', (∀ b o, b ≠ p → H b = some o → H1 b = some o) → H1 d' = none → E (.ref ((dueOf top rs).cls CT CU CM)) (some d') (upd H1 d' (.xd [("kind", .str (dueOf top rs).kind)]))) ∧
  ((dueOf top rs).bad = false → ∀ H', (∀ b o, b ≠ p → H b = some o → H' b = some o) → GA K C H' p top rs → Q .non H')
abbrev nIn : List Str := ["self", "root", "rows", "told", "kind", "role", "inner"]
abbrev pIn : List Str := ["self", "root", "rows"]
theorem scInit : FnScope nIn pIn (defScope sInit) := ⟨rfl, rfl, rfl, by decide +kernel, rfl, by decide +kernel, by decide +kernel⟩
theorem ok_ginit {C CT CU CM fT fU fM fC f : Addr} {fdT fdU fdM fdC fd : FuncData} (B : Blt mg) (Tc : Gmr K mg C) (NT : TkE K mg CT fT fdT) (NU : UnE K mg CU fU fdU) (NM : MiE K mg CM fM fdM) (F : Fun K "__init__" "Grammar.__init__" sInit f fd)
    (F_chk : Fun K "_check_inner" "_check_inner" sCheckIn fC fdC) (b_chk : Binds K fdC ["rows"] []) (g_chk : mg "_check_inner" = some (.ref fC)) (G_chk : FnOk P w K mg base (L2N.CX P w) 3 fC fdC ["rows"] (spChk K CT CU CM)) :
    FnOk P w K mg base (L2N.CX P w) 4 f fd pIn (spInit K C CT CU CM) := by
  have GT : FnOk P w K mg base CX0 1 fT fdT ["self", "kind"] (spEI K CT "kind") := ok_TkI NT.F
  have GU : FnOk P w K mg base CX0 1 fU fdU ["self", "kind"] (spEI K CU "kind") := ok_UnI NU.F
  have GM : FnOk P w K mg base CX0 1 fM fdM ["self", "kind"] (spEI K CM "kind") := ok_MiI NM.F
  refine RN.okXN F scInit (fun vs H Q E h => ?_) (fun cdv A0 outer s H vs Q E hr h => ?_)
  · obtain ⟨p, dx, a, top, rs, rfl, _⟩ := h; rfl
  · obtain ⟨p, dx, a, top, rs, rfl, hp, ⟨ha, hrs⟩, hl, qe, q⟩ := h
    have hr2 : Room 2 _ := hr.mono (by decide)
    refine ⟨_, (pss_cons (ps_set (i := 3) scInit.nd rfl (.inl rfl) pe_dnewK)
      (pss_cons (ps_for (passes_of rfl) rfl (pi_list (pv 2)) (pg_tup rfl (pgs_cons (pg_name (i := 4) scInit.nd rfl (.inl rfl)) (pgs_cons (pg_name (i := 5) scInit.nd rfl (.inl rfl)) (pgs_cons (pg_name (i := 6) scInit.nd rfl (.inl rfl)) pgs_nil))))
        (pss_cons (ps_if (pt_cmp (pc_din (hu_of hr) (pv 4) (pv 3)))
          (pss_one (L2N.ps_raise rfl (L2N.takes_of rfl rfl rfl rfl) (RN.pmk_oexN NT.oex NT.iC NT.tI GT hr2 NT.b .nil pass0 (by rfl) NT.gC (pa_cons (pv 4) pa_nil))))
          pss_nil)
        (pss_one (ps_dput (hu_of hr) (pv 3) (pv 4) (pe_tup (pa_cons (pv 5) (pa_cons (pe_callTy call_tuple_of (by rfl) B.tuple (by decide +kernel) (pa_cons (pv 6) pa_nil)) pa_nil))) rfl))))
      (pss_cons (ps_if (pt_cmp (pc_dnotin (hu_of hr) (pv 1) (pv 3)))
        (pss_one (L2N.ps_raise rfl (L2N.takes_of rfl rfl rfl rfl) (RN.pmk_oexN NU.oex NU.iC NU.tI GU hr2 NU.b .nil pass0 (by rfl) NU.gC (pa_cons (pv 1) pa_nil))))
        pss_nil)
      (pss_cons (ps_if (pt_cmpR op_ne (pe_ix ix_tup (pe_dget (hu_of hr) (pv 3) (pv 1) (fun _ _ => rfl)) pe_int (fun _ _ => rfl)) pe_str (nomark _))
        (pss_one (L2N.ps_raise rfl (L2N.takes_of rfl rfl rfl rfl) (RN.pmk_oexN NM.oex NM.iC NM.tI GM hr2 NM.b .nil pass0 (by rfl) NM.gC (pa_cons (pv 1) pa_nil))))
        pss_nil)
      (pss_cons (ps_expr (pe_call G_chk hr (by rfl) g_chk F_chk.kp b_chk .nil (L2N.passes_call (L2N.takes_of rfl rfl rfl rfl) (fun _ _ _ _ h => h)) (pa_cons (pv 3) pa_nil)))
      (pss_cons (ps_fld (pv 0) (pv 1) rfl)
      (pss_one (ps_fld (pv 0) (pv 3) rfl)))))))), ?_⟩
    refine fun d nd => ?_
    have npd : p ≠ d := ne_of_none hp nd
    have npa : a ≠ p := ne_of ha hp (by intro z; cases z)
    have s1 : Same H (upd H d (.dK [])) := same_new nd
    have hd1 : (upd H d (.dK [])) d = some (.dK (kvE [])) := upd_same
    generalize upd H d (.dK []) = H1 at s1 hd1 ⊢
    refine ⟨.ref a, rfl, a, rfl, ⟨_, SqL.of (s1 _ _ ha)⟩, for_list (K := K) (a := a) (xs := rv rs) (fun i σ H' => ∃ (y4 y5 y6 : Option V) (es : List Ent), σ = [some (.ref p), some (.str top), some (.ref a), some (.ref d), y4, y5, y6] ∧ Same H H' ∧ H' d = some (.dK (kvE es)) ∧
      es.map (·.1) = rs.take i ∧ (∀ e ∈ es, EntOk K H' e) ∧ takenF [] (ks rs) = takenF ((ks rs).take i) ((ks rs).drop i)) ⟨none, none, none, [], rfl, s1, hd1, rfl, (fun e he => nomatch he), rfl⟩ (fun i σ H' _ ⟨_, _, _, _, _, sm, _⟩ => SqL.of (sm _ _ ha)) ?_ ?_⟩
    · rintro i x σ H' hi ⟨y4, y5, y6, es, rfl, sm, hd, hes, hok, hbad⟩
      unfold rv at hi
      rw [List.getElem?_map] at hi
      cases en : rs[i]? with
      | none => rw [en] at hi; cases hi
      | some r =>
      rw [en] at hi; cases hi
      have hilt := (List.getElem?_eq_some_iff.mp en).1
      obtain ⟨hrT, hrI⟩ := (hrs r (List.mem_of_getElem? en)).kp (.of sm)
      have hcat : (ks rs)[i]? = some r.k := by unfold ks; rw [List.getElem?_map, en]; rfl
      rw [takenF_at hcat] at hbad
      have hmem : (ks rs).take i = ks (es.map (·.1)) := by rw [hes]; unfold ks; rw [List.map_take]
      refine ⟨r.t, _, rfl, hrT.sq, rfl, _, _, rfl, _, _, rfl, _, _, rfl, rfl, ?_⟩
      have kp1 : ∀ b o, b ≠ p → H b = some o → H' b = some o := fun b o _ e => sm _ _ e
      refine ⟨.str r.k, rfl, .ref d, rfl, d, _, rfl, DGet.k (k := Sum.inr r.k) hd, _, rfl, ?_⟩
      rw [valE_some, ← hmem]
      refine ite2 (fun h2 => ?_) (fun h2 => ?_)
      · rw [if_pos (of_decide_eq_true h2)] at hbad
        have hD : dueOf top rs = .taken r.k := by unfold dueOf; rw [hbad]
        rw [hD] at qe
        exact ⟨.str r.k, rfl, raise_err NT.oex NT.fp fun d2 hd2 => qe rfl H' d2 kp1 hd2⟩
      have hno : ¬ r.k ∈ (ks rs).take i := fun z => h2 (decide_eq_true z)
      rw [if_neg hno] at hbad
      have hvn : valV (kvE es) (Sum.inr r.k) = none := by
        have := valE_some r.k es
        rw [← hmem, decide_eq_false hno] at this
        exact Option.not_isSome_iff_eq_none.mp (by rw [this]; exact Bool.false_ne_true)
      refine ⟨.str r.r, rfl, .ref r.i, rfl, r.i, _, rfl, .inr ⟨hrI.1.sq, by show 2 ≤ sizeLine; decide, fun T nT => ?_⟩⟩
      have sT := same_new nT (o := .tup [.str r.r, .ref r.i])
      have hel : es.length = i := by have := congrArg List.length hes; rw [List.length_map, List.length_take] at this; omega
      refine ⟨.ref d, rfl, .str r.k, rfl, d, _, rfl, DPut.k (k := Sum.inr r.k) (sT _ _ hd) (by rw [kvE_len]; exact small1000 (by omega)), ?_⟩
      rw [putK_new _ hvn]
      have ndT : d ≠ T := ne_of_none hd nT
      have kd : Kp H' (upd (upd H' T (.tup [.str r.r, .ref r.i])) d (.dK (kvE es ++ [((Sum.inr r.k : Key), V.ref T)]))) := (Kp.of sT).trans (Kp.but (sT _ _ hd) (fun z => z) upd_but)
      have hT : upd (upd H' T (.tup [.str r.r, .ref r.i])) d (.dK (kvE es ++ [((Sum.inr r.k : Key), V.ref T)])) T = some (.tup [.str r.r, .ref r.i]) := by rw [upd_ne (Ne.symm ndT), upd_same]
      refine ⟨_, _, _, es ++ [(r, T)], rfl, same_at (sm.trans sT) nd, ?_, ?_, ?_, hbad⟩
      · rw [upd_same]; unfold kvE; rw [List.map_append]; rfl
      · rw [List.map_append, hes, List.take_add_one, en]; rfl
      · intro e he
        rcases List.mem_append.mp he with he | he
        · exact (hok e he).kp kd
        · rw [List.mem_singleton.mp he]
          exact ⟨hT, hrI.kp kd⟩
    · rintro σ H' ⟨y4, y5, y6, es, rfl, sm, hd, hes, hok, hbad⟩
      rw [rv_len, List.take_length] at hes
      have hbn : takenF [] (ks rs) = none := by
        rw [rv_len] at hbad
        rw [hbad, List.drop_of_length_le (by simp [ks])]; rfl
      have h0 : H' p = some (.ins C dx []) := sm _ _ hp
      have kp1 : ∀ b o, b ≠ p → H b = some o → H' b = some o := fun b o _ e => sm _ _ e
      have hel : es.length = rs.length := by rw [← hes, List.length_map]
      have hdue : dueOf top rs = match roleOf rs top with
        | none => .unknown top
        | some r => if r = T "root" then rowsF rs rs else .misfit top := by
        unfold dueOf; rw [hbn] <;> (cases roleOf rs top <;> rfl)
      refine ⟨.str top, rfl, .ref d, rfl, d, _, rfl, DGet.k (k := Sum.inr top) hd, _, rfl, ?_⟩
      have hrE := roleE top es
      have hv := valE top es
      rw [hes] at hrE
      cases hf0 : es.find? (fun e => decide (e.1.k = top)) with
      | none =>
        rw [hf0] at hrE hv
        have hrE' : roleOf rs top = none := hrE
        have hD : dueOf top rs = .unknown top := by rw [hdue, hrE']
        rw [hD] at qe
        rw [hv]
        exact iteT ⟨.str top, rfl, raise_err NU.oex NU.fp fun d2 hd2 => qe rfl H' d2 kp1 hd2⟩
      | some x =>
        rw [hf0] at hrE hv
        have hrE' : roleOf rs top = some x.1.r := hrE
        rw [hrE'] at hdue
        have hx := List.mem_of_find?_eq_some hf0
        obtain ⟨hx1, hxI⟩ := hok x hx
        have hdg : DGet H' d (V.str top) (some (V.ref x.2)) := by
          have := DGet.k (k := Sum.inr top) hd
          rw [hv] at this; exact this
        rw [hv]
        refine iteF ⟨.ref d, rfl, .str top, rfl, d, .ref x.2, rfl, hdg, x.2, _, 0, .str x.1.r, rfl, rfl, SqT.of hx1, rfl, rfl, _, rfl, ?_⟩
        refine ite2 (fun hb => ?_) (fun hb => ?_)
        · have hne : ¬ x.1.r = T "root" := fun e => by rw [e] at hb; revert hb; decide +kernel
          have hD : dueOf top rs = .misfit top := by rw [hdue]; exact if_neg hne
          rw [hD] at qe
          exact ⟨.str top, rfl, raise_err NM.oex NM.fp fun d2 hd2 => qe rfl H' d2 kp1 hd2⟩
        · have he : x.1.r = T "root" := by
            by_cases e : x.1.r = T "root"
            · exact e
            · exact absurd (show (!decide (V.str x.1.r = V.str (T "root"))) = true by rw [decide_eq_false (fun z => e (V.str.inj z))]; rfl) hb
          have hD : dueOf top rs = rowsF rs rs := by rw [hdue]; exact if_pos he
          rw [hD] at qe q
          refine ⟨.ref d, rfl, d, es, rfl, hd, hok, by omega, ?_, ?_⟩
          · rw [hes]
            exact fun hb2 H1' d' hk hn => qe hb2 H1' d' (fun b o hb3 e => by
              refine hk b o ?_ (kp1 b o hb3 e)
              exact fun z => by subst z; rw [nd] at e; cases e) hn
          · rw [hes]
            intro hb2
            refine ⟨.str top, rfl, .ref p, rfl, p, C, dx, [], rfl, h0, Tc.cl, Tc.n1, (by show 0 < 1000; decide), ?_⟩
            refine ⟨.ref d, rfl, .ref p, rfl, p, C, dx, _, rfl, upd_same, Tc.cl, Tc.n2, (by show 1 < 1000; decide), ?_⟩
            rw [upd_upd]
            refine q hb2 _ (fun x o hx e => by rw [upd_ne hx]; exact sm _ _ e) ⟨dx, d, _, es, upd_same, ?_, ?_, by rw [upd_ne (Ne.symm npd)]; exact hd, hes, (fun e he => (hok e he).kp (Kp.but h0 (fun z => z) upd_but))⟩
            · rw [lookup_putF, if_neg (by decide +kernel), lookup_putF, if_pos rfl]
            · rw [lookup_putF, if_pos rfl]
end
end K05

set_option maxRecDepth 100000
set_option maxHeartbeats 8000000
namespace K05
open PySem PySem.Spec PyProof.Rows L2
/-! ### rows that say the same -/
def norm (r : Rw) : Rw := { r with t := 0, i := 0 }
theorem ks_norm (rs : List Rw) : ks (rs.map norm) = ks rs := by unfold ks; rw [List.map_map]; rfl
theorem roleOf_norm (rs : List Rw) (c : Str) : roleOf (rs.map norm) c = roleOf rs c := by
  unfold roleOf
  rw [List.find?_map, Option.map_map]; rfl
theorem innF_norm (rs : List Rw) (o : Str) : ∀ l : List Str, innF (rs.map norm) o l = innF rs o l
  | [] => rfl
  | c :: l => by
    unfold innF
    rw [roleOf_norm, innF_norm rs o l]
theorem rowsF_norm (rs : List Rw) : ∀ l : List Rw, rowsF (rs.map norm) (l.map norm) = rowsF rs l
  | [] => rfl
  | r :: l => by
    rw [List.map_cons]
    unfold rowsF
    rw [rowsF_norm rs l]
    show (match innF (rs.map norm) r.r r.ins with | .good => _ | d => d) = _
    rw [innF_norm] <;> (cases innF rs r.r r.ins <;> rfl)
theorem dueOf_norm (top : Str) (rs : List Rw) : dueOf top (rs.map norm) = dueOf top rs := by
  unfold dueOf
  rw [ks_norm, roleOf_norm, rowsF_norm]
theorem made_up {H : Hp} {x dx C : Addr} (nx : H x = none) (ndx : H dx = none) : Same H (upd (upd H dx (.own x)) x (.ins C dx [])) := fun b o hb => by
  rw [upd_ne (fun e => by subst e; rw [nx] at hb; cases hb), upd_ne (fun e => by subst e; rw [ndx] at hb; cases hb)]; exact hb
theorem made_same {H H' : Hp} {x dx C : Addr} (nx : H x = none) (ndx : H dx = none) (hk : ∀ b o, b ≠ x → (upd (upd H dx (.own x)) x (.ins C dx [])) b = some o → H' b = some o) : Same H H' := fun b o hb =>
  hk b o (fun e => by subst e; rw [nx] at hb; cases hb) (made_up nx ndx b o hb)
theorem passNN {X : Cx} : Passes (L2N.CX X.prog X.w) X E0 := fun _ _ _ _ _ _ _ h => by
  obtain ⟨_, _, _, _, _, _, _, _, _, _, _, _, z⟩ := h
  exact z.elim
/-- the usual rows -/
def usN : List Rw := [⟨0, T "doc", T "root", 0, [T "head", T "par"]⟩, ⟨0, T "head", T "head", 0, [T "em", T "see"]⟩, ⟨0, T "par", T "block", 0, [T "em", T "note", T "fig", T "see"]⟩, ⟨0, T "em", T "span", 0, [T "em", T "see"]⟩,
  ⟨0, T "note", T "note", 0, [T "em"]⟩, ⟨0, T "fig", T "figure", 0, [T "em"]⟩, ⟨0, T "see", T "ref", 0, []⟩]
theorem usN_good : (dueOf (T "doc") usN).bad = false := by decide +kernel
/-- USUAL_ROWS -/
structure Usu (K : PySem.W.Frag) (UR : Addr) (us : List Rw) : Prop where
  at_ : ∀ H : Hp, SqT K H UR (rv us)
  rows : ∀ r ∈ us, ∀ H : Hp, RowT K H r
  nm : us.map norm = usN
theorem Usu.len {K : PySem.W.Frag} {UR : Addr} {us : List Rw} (U : Usu K UR us) : us.length = 7 := by
  have := congrArg List.length U.nm
  rw [List.length_map] at this; exact this
section
variable {P : Program} {w : World} {K : PySem.W.Frag} {mg : Str → Option Value} {base : Heap} {t1 : Tok}
/-! ### Grammar.usual -/
def spUsual (K : PySem.W.Frag) (C : Addr) (us : List Rw) : Sp := fun vs H Q _ => vs = [] ∧ ∀ H' p, Same H H' → GA K C H' p (T "doc") us → Q (.ref p) H'
theorem scUsual : FnScope [] [] (defScope sUsual) := ⟨rfl, rfl, rfl, by decide +kernel, rfl, by decide +kernel, by decide +kernel⟩
theorem ok_usual {C CT CU CM UR fI f : Addr} {fdI fd : FuncData} {us : List Rw} (B : Blt mg) (Tc : Gmr K mg C) (M : Mk K C fI) (U : Usu K UR us) (gU : mg "USUAL_ROWS" = some (.ref UR)) (F : Fun K "usual" "Grammar.usual" sUsual f fd)
    (G_init : FnOk P w K mg base (L2N.CX P w) 4 fI fdI pIn (spInit K C CT CU CM)) (b_init : Binds K fdI pIn []) : FnOk P w K mg base CX0 6 f fd [] (spUsual K C us) := by
  refine F.ok scUsual (fun vs H Q E h => ?_) (fun cdv A0 outer s H vs Q E hr h => ?_)
  · obtain ⟨rfl, _⟩ := h; rfl
  · obtain ⟨rfl, q⟩ := h
    refine ⟨_, (pss_one (ps_ret (pe_make M G_init hr (by rfl) Tc.mgC b_init .nil passNN (pa_cons pe_str (pa_cons (pe_callTy call_list_of (by rfl) B.list (by decide +kernel) (pa_cons (pe_glob (v := .ref UR) (by rfl) gU rfl) pa_nil)) pa_nil))))), ?_⟩
    refine ⟨UR, _, rfl, .inr (U.at_ H), fun l nl => ?_⟩
    have s2 := same_new nl (o := .lst (rv us))
    have hl : (upd H l (.lst (rv us))) l = some (.lst (rv us)) := upd_same
    generalize upd H l (.lst (rv us)) = H2 at s2 hl ⊢
    refine fun p dx np ndx hne => ?_
    have sM : Same H2 (upd (upd H2 dx (.own p)) p (.ins C dx [])) := made_up np ndx
    have hgood : (dueOf (T "doc") us).bad = false := by rw [← dueOf_norm, U.nm]; exact usN_good
    exact ⟨p, dx, l, T "doc", us, rfl, upd_same, ⟨sM _ _ hl, fun r hr => U.rows r hr _⟩, by rw [U.len]; decide, (fun hb => by rw [hgood] at hb; cases hb), fun _ H3 hk hF => ⟨rfl, q H3 p (s2.trans (made_same np ndx hk)) hF⟩⟩
/-! ### in, len, iter, [] -/
def spHas (K : PySem.W.Frag) (C : Addr) : Sp := fun vs H Q _ => ∃ (p : Addr) (c top : Str) (rs : List Rw), vs = [.ref p, .str c] ∧ GA K C H p top rs ∧ Q (.bl (decide (c ∈ ks rs))) H
theorem scHas : FnScope ["self", "kind"] ["self", "kind"] (defScope sHas) := ⟨rfl, rfl, rfl, by decide +kernel, rfl, by decide +kernel, by decide +kernel⟩
theorem ok_has {C f : Addr} {fd : FuncData} (Tc : Gmr K mg C) (F : Fun K "__contains__" "Grammar.__contains__" sHas f fd) : FnOk P w K mg base CX0 1 f fd ["self", "kind"] (spHas K C) := by
  refine F.ok scHas (fun vs H Q E h => ?_) (fun cdv A0 outer s H vs Q E hr h => ?_)
  · obtain ⟨p, c, top, rs, rfl, _⟩ := h; rfl
  · obtain ⟨p, c, top, rs, rfl, ⟨dx, d, fs, es, h1, h2, h3, h4, h5, h6⟩, q⟩ := h
    refine ⟨_, (pss_one (ps_ret (pe_cmp (pc_din (hu_of hr) (pv 1) (pe_fld (pv 0) rfl))))), ?_⟩
    refine ⟨.str c, rfl, .ref p, rfl, p, C, dx, fs, _, rfl, h1, Tc.cl, Tc.n2, h3, d, _, rfl, DGet.k (k := Sum.inr c) h4, ?_⟩
    rw [valE_some, h5]; exact q
theorem call_lenRd {X : Cx} : CallR X (.builtin "len") (fun xs H Q => ∃ a kvs, xs = [V.ref a] ∧ Rd H a (.dK kvs) ∧ Q (.int kvs.length) H) := by
  intro pins s σ H xs us Q I r h
  obtain ⟨a, kvs, rfl, ha, q⟩ := h
  obtain ⟨u, rfl, ru⟩ := vals1 r
  cases ru
  exact d_len I ha fun t s' I' => ⟨.int kvs.length, H, I', ⟨t, rfl⟩, q⟩
def spLen (C : Addr) : Sp := fun vs H Q _ => ∃ (p dx d : Addr) (fs : List (Str × V)) (kvs : List (Key × V)), vs = [.ref p] ∧ H p = some (.ins C dx fs) ∧ fs.lookup ("_rows" : Str) = some (.ref d) ∧ Rd H d (.dK kvs) ∧ Q (.int ((kvs.length : Nat) : Int)) H
theorem scLen : FnScope ["self"] ["self"] (defScope sLen) := ⟨rfl, rfl, rfl, by decide +kernel, rfl, by decide +kernel, by decide +kernel⟩
theorem ok_len {C f : Addr} {fd : FuncData} (B : Blt mg) (Tc : Gmr K mg C) (F : Fun K "__len__" "Grammar.__len__" sLen f fd) : FnOk P w K mg base CX0 1 f fd ["self"] (spLen C) := by
  refine F.ok scLen (fun vs H Q E h => ?_) (fun cdv A0 outer s H vs Q E hr h => ?_)
  · obtain ⟨p, dx, d, fs, kvs, rfl, _⟩ := h; rfl
  · obtain ⟨p, dx, d, fs, kvs, rfl, hp, ff, hd, q⟩ := h
    refine ⟨_, (pss_one (ps_ret (pe_callB call_lenRd (by rfl) B.len PySem.boot_len (pa_cons (pe_fld (pv 0) rfl) pa_nil)))), ?_⟩
    exact ⟨.ref p, rfl, p, C, dx, fs, _, rfl, hp, Tc.cl, Tc.n2, ff, d, kvs, rfl, hd, q⟩
theorem scIter : FnScope ["self"] ["self"] (defScope sIter) := ⟨rfl, rfl, rfl, by decide +kernel, rfl, by decide +kernel, by decide +kernel⟩
theorem ok_iter {C f : Addr} {fd : FuncData} (B : Blt mg) (Tc : Gmr K mg C) (F : Fun K "__iter__" "Grammar.__iter__" sIter f fd) : RO.FnN P w K mg base CX0 1 f fd ["self"] (RK.spItK C "_rows") := by
  refine RO.fun_okN F scIter (fun n vs H Q E h => ?_) (fun cdv A0 outer s H vs Q E hr h => ?_)
  · obtain ⟨p, dx, d, fs, o, kvs, rfl, _⟩ := h; rfl
  · obtain ⟨p, dx, d, fs, o, kvs, rfl, hp, hf, hd, q⟩ := h
    refine ⟨_, (pss_one (ps_ret (pe_callB RK.call_iterK (by rfl) B.iter (by decide +kernel) (pa_cons (pe_fld (pv 0) rfl) pa_nil)))), ?_⟩
    exact ⟨.ref p, rfl, p, C, dx, fs, _, rfl, hp, Tc.cl, Tc.n2, hf, d, o, kvs, rfl, hd, q⟩
/-- o[kind]: the pair, or Unknown -/
def spGet (K : PySem.W.Frag) (C CU : Addr) : Sp := fun vs H Q E => ∃ (p : Addr) (c top : Str) (rs : List Rw), vs = [.ref p, .str c] ∧ GA K C H p top rs ∧
  (c ∉ ks rs → ∀ d, H d = none → E (.ref CU) (some d) (upd H d (.xd [("kind", .str c)]))) ∧ (∀ (r : Rw) (t : Addr), rs.find? (fun r => decide (r.k = c)) = some r → H t = some (.tup [.str r.r, .ref r.i]) → InsV K H r → Q (.ref t) H)
theorem scGet : FnScope ["self", "kind"] ["self", "kind"] (defScope sGet) := ⟨rfl, rfl, rfl, by decide +kernel, rfl, by decide +kernel, by decide +kernel⟩
theorem ok_get {C CU fU f : Addr} {fdU fd : FuncData} (Tc : Gmr K mg C) (NU : UnE K mg CU fU fdU) (F : Fun K "__getitem__" "Grammar.__getitem__" sGet f fd) : FnOk P w K mg base (L2N.CX P w) 3 f fd ["self", "kind"] (spGet K C CU) := by
  have GU : FnOk P w K mg base CX0 1 fU fdU ["self", "kind"] (spEI K CU "kind") := ok_UnI NU.F
  refine RN.okXN F scGet (fun vs H Q E h => ?_) (fun cdv A0 outer s H vs Q E hr h => ?_)
  · obtain ⟨p, c, top, rs, rfl, _⟩ := h; rfl
  · obtain ⟨p, c, top, rs, rfl, ⟨dx, d, fs, es, h1, h2, h3, h4, h5, h6⟩, qe, q⟩ := h
    have hr2 : Room 2 _ := hr
    refine ⟨_, (pss_cons (ps_if (pt_cmp (pc_dnotin (hu_of hr) (pv 1) (pe_fld (pv 0) rfl)))
        (pss_one (L2N.ps_raise rfl (L2N.takes_of rfl rfl rfl rfl) (RN.pmk_oexN NU.oex NU.iC NU.tI GU hr2 NU.b .nil pass0 (by rfl) NU.gC (pa_cons (pv 1) pa_nil))))
        pss_nil)
      (pss_one (ps_ret (pe_dget (hu_of hr) (pe_fld (pv 0) rfl) (pv 1) (fun _ _ => rfl))))), ?_⟩
    refine ⟨.str c, rfl, .ref p, rfl, p, C, dx, fs, _, rfl, h1, Tc.cl, Tc.n2, h3, d, _, rfl, DGet.k (k := Sum.inr c) h4, _, rfl, ?_⟩
    have hf := find_ent c es
    have hv := valE c es
    rw [h5] at hf
    cases hr0 : es.find? (fun e => decide (e.1.k = c)) with
    | none =>
      rw [hr0] at hv hf
      have hno : c ∉ ks rs := by
        refine roleOf_none.mp ?_
        unfold roleOf; rw [hf]; rfl
      rw [hv]
      exact iteT ⟨.str c, rfl, raise_err NU.oex NU.fp fun d2 hd2 => qe hno d2 hd2⟩
    | some e =>
      rw [hr0] at hv hf
      obtain ⟨he1, he2⟩ := h6 e (List.mem_of_find?_eq_some hr0)
      rw [hv]
      have hdg : DGet H d (V.str c) (some (V.ref e.2)) := by
        have := DGet.k (k := Sum.inr c) h4
        rw [hv] at this; exact this
      exact iteF ⟨.ref p, rfl, p, C, dx, fs, _, rfl, h1, Tc.cl, Tc.n2, h3, .str c, rfl, d, .ref e.2, rfl, hdg, q e.1 e.2 hf he1 he2⟩
end
end K05

set_option maxRecDepth 100000
set_option maxHeartbeats 8000000
namespace K05
open PySem PySem.Spec PyProof.Rows L2
/-! ### lengths of texts -/
theorem joinL_len : ∀ ls : List (List Nat), (TL.joinL [] ls).length = (ls.map List.length).sum
  | [] => rfl
  | [p] => by simp [TL.joinL]
  | p :: q :: r => by
    have h := joinL_len (q :: r)
    simp only [TL.joinL, List.nil_append, List.length_append, h, List.map_cons, List.sum_cons]
theorem join_len {e : Str} (he : TL.tl e = []) (ys : List Str) : (Txt.join e ys).length = (ys.map (·.length)).sum := by
  have h1 : (Txt.join e ys).length = (TL.tl (Txt.join e ys)).length := by simp [TL.tl, Str.length]
  rw [h1, TL.join_eq, TL.tl_join, he, joinL_len, List.map_map]
  refine congrArg List.sum (List.map_congr_left fun y _ => ?_)
  show (TL.tl y).length = y.length
  simp [TL.tl, Str.length]
theorem cut_le (z : Str) (lo hi : Option Int) : (cutS z lo hi).length ≤ z.length := cutS_length z lo hi
theorem add_len' (a b : Str) : (a ++ b).length = a.length + b.length := by
  show (a.cps ++ b.cps).size = _
  rw [Array.size_append]; rfl
/-- each within 0 .. l -/
def Within' (l : Int) (rs : List Int) : Prop := ∀ r ∈ rs, 0 ≤ r ∧ r < l
theorem row_part {ls rs : List Int} (h : RowOf ls rs) {a n : Nat} {l : Int} (hl : ∀ j, j < n → ls[a + j]? = some l) : Within' l ((rs.drop a).take n) ∧ (0 < n → a + n ≤ rs.length) := by
  refine ⟨fun r hr => ?_, fun hn => ?_⟩
  · obtain ⟨j, hj, e⟩ := List.mem_iff_getElem.mp hr
    have hj' : j < n := by rw [List.length_take] at hj; omega
    have e2 : rs[a + j]? = some r := by
      have e3 : ((rs.drop a).take n)[j]? = some r := by rw [List.getElem?_eq_getElem hj, e]
      rw [List.getElem?_take_of_lt hj', List.getElem?_drop] at e3; exact e3
    obtain ⟨r', h1, h2, h3⟩ := h.2 _ _ (hl j hj')
    rw [e2] at h1; cases h1; exact ⟨h2, h3⟩
  · have e := hl (n - 1) (by omega)
    have h3 := (List.getElem?_eq_some_iff.mp e).1
    have h4 := h.1
    omega
theorem one_len (c : Nat) : (⟨#[c]⟩ : Str).length = 1 := rfl
theorem cut_len (z : Str) (n : Nat) : (cutS z none (some (n : Int))).length = min n z.length := by
  have := congrArg List.length (cut_to z n)
  rw [tl_len, List.length_take, tl_len] at this; exact this
theorem sum_ones' : ∀ {ys : List Str}, (∀ y ∈ ys, y.length = 1) → (ys.map (·.length)).sum = ys.length
  | [], _ => rfl
  | y :: ys, h => by
    have h1 := h y (by simp)
    have h2 := sum_ones' (ys := ys) fun z hz => h z (by simp [hz])
    simp only [List.map_cons, List.sum_cons, List.length_cons]
    omega
/-- of letters alone -/
def LS (z : Str) : Prop := ∀ c ∈ tl z, c ∈ tl letters
theorem LS_ok {z : Str} (h : LS z) : okS z := fun c hc => by
  have := letters_L c (h c hc)
  unfold isL at this
  rw [Bool.and_eq_true, decide_eq_true_eq, decide_eq_true_eq] at this
  omega
theorem LS_one {c : Nat} (h : c ∈ tl letters) : LS ⟨#[c]⟩ := fun d hd => by
  have : d = c := by simpa [tl] using hd
  rw [this]; exact h
theorem LS_add {a b : Str} (ha : LS a) (hb : LS b) : LS (a ++ b) := fun c hc => by
  rw [tl_add, List.mem_append] at hc
  exact hc.elim (ha c) (hb c)
theorem LS_cut {z : Str} {lo hi : Option Int} (h : LS z) : LS (cutS z lo hi) := fun c hc => by
  refine h c ?_
  unfold tl cutS at hc
  exact List.mem_of_mem_drop (List.mem_of_mem_take hc)
theorem LS_join {ys : List Str} (h : ∀ y ∈ ys, LS y) : LS (Txt.join (Str.ofString "") ys) := fun c hc => by
  rw [tl_joined (by decide +kernel), List.mem_flatten] at hc
  obtain ⟨l, hl, hc⟩ := hc
  obtain ⟨y, hy, rfl⟩ := List.mem_map.mp hl
  exact h y hy c hc
def lsN : List Int := [3, 8] ++ (List.replicate 13 [8, 26, 26, 26, 26, 26, 26, 26, 26]).flatten
theorem lsN_len : lsN.length = 119 := by decide +kernel
theorem lsN_pos : ∀ l ∈ lsN, 0 < l ∧ l < 1000000 := by decide +kernel
theorem lsN_many : ∀ k, k < 13 → lsN[9 * k + 2]? = some 8 := by decide +kernel
theorem lsN_word : ∀ k, k < 13 → ∀ j, j < 8 → lsN[9 * k + 3 + j]? = some 26 := by decide +kernel
theorem put_str {H H' : Hp} {o : Addr} {zs : List Str} {n : Nat} {z : Str} (sm : Same H H') (no : H o = none) (hl : zs.length = 13) (hz : ∀ z ∈ zs, LS z ∧ z.length ≤ 100) (h : LS z) (hlen : z.length ≤ 100) :
    ∃ zs' : List Str, zs'.length = 13 ∧ (upd H' o (.lst ((zs.map V.str).set n (.str z)))) o = some (.lst (zs'.map V.str)) ∧ Same H (upd H' o (.lst ((zs.map V.str).set n (.str z)))) ∧ ∀ z ∈ zs', LS z ∧ z.length ≤ 100 :=
  ⟨zs.set n z, by rw [List.length_set]; exact hl, by rw [upd_same, List.map_set], same_at sm no, fun x hx => (List.mem_or_eq_of_mem_set hx).elim (hz x) fun e => by rw [e]; exact ⟨h, hlen⟩⟩
section
variable {P : Program} {w : World} {K : PySem.W.Frag} {mg : Str → Option Value} {base : Heap}
/-! ### _law_names -/
def spNames : Sp := fun vs H Q _ => ∃ (c : Int), vs = [.int c, .int 13] ∧ ∀ (H' : Hp) (p : Addr) (zs : List Str), Same H H' → H p = none → H' p = some (.lst (zs.map V.str)) → zs.length = 13 → (∀ z ∈ zs, LS z ∧ z.length ≤ 100) → Q (.ref p) H'
abbrev nN : List Str := ["_law_cell_here", "_law_many", "_law_letters", "_law_row_here", "_law_names_here", "_law_k", "_law_word", "_law_first", "_law_at", "_law_letter", "_law_pick"]
theorem scNames : FnScope nN ["_law_cell_here", "_law_many"] (defScope sNames) := ⟨rfl, rfl, rfl, by decide +kernel, rfl, by decide +kernel, by decide +kernel⟩
theorem ok_names {f f_row : Addr} {fd fd_row : FuncData} (B : Blt mg) (F : Fun K "_law_names" "_law_names" sNames f fd) (F_row : Fun K "_law_row" "_law_row" sRow f_row fd_row) (b_row : Binds K fd_row ["_law_cell_here", "_law_limits"] []) (g_row : mg "_law_row" = some (.ref f_row)) :
    FnOk P w K mg base CX0 2 f fd ["_law_cell_here", "_law_many"] spNames := by
  have G_row : FnOk P w K mg base CX0 1 f_row fd_row ["_law_cell_here", "_law_limits"] (spRow K) := ok_row B F_row
  refine F.ok scNames (fun vs H Q E h => ?_) (fun cdv A outer s H vs Q E hr h => ?_)
  · obtain ⟨c, rfl, _⟩ := h; rfl
  · obtain ⟨c, rfl, q⟩ := h
    refine ⟨_, (pss_cons (ps_set (i := 2) scNames.nd rfl (.inr rfl) pe_str)
      (pss_cons (ps_set (i := 3) scNames.nd rfl (.inl rfl) (pe_call G_row hr (by rfl) g_row F_row.kp b_row .nil pass0 (pa_cons (pv 0) (pa_cons (pe_op op_cat (pe_lst (pa_cons pe_int (pa_cons pe_int pa_nil))) (pe_op op_rep (pe_lst (pa_cons pe_int (pa_cons pe_int (pa_cons pe_int (pa_cons pe_int (pa_cons pe_int (pa_cons pe_int (pa_cons pe_int (pa_cons pe_int (pa_cons pe_int pa_nil)))))))))) (pv 1))) pa_nil))))
      (pss_cons (ps_set (i := 4) scNames.nd rfl (.inl rfl) (pe_lst pa_nil))
      (pss_cons (ps_for (PassesOwn.never) rfl (pi_range1 (by rfl) B.range (pa_cons (pv 1) pa_nil)) (pg_name (i := 5) scNames.nd rfl (.inl rfl))
      (pss_cons (ps_set (i := 6) scNames.nd rfl (.inl rfl) (pe_join pe_str (pe_lc (own := [("_law_pick", 10)]) (g := gName 10) (tt := tYes) rfl scNames.nd (pi_list (pe_slice sl_list (pv 3) (po_some (pe_op op_add (pe_op op_mul pe_int (pv 5)) pe_int)) (po_some (pe_op op_add (pe_op op_mul pe_int (pv 5)) pe_int)))) (blkOk_by (N := nN) (sc := defScope sNames) (by decide +kernel)) (fun _ _ _ _ _ => (pg_name (i := 10) scNames.nd rfl (.inl rfl))) (fun _ _ _ _ _ => pts_nil) (fun _ _ _ _ _ => (pe_ix ix_str (pv 2) (pv 10) (fun _ _ => rfl))))))
       (pss_one (ps_expr (pe_bm PySem.F.plainAttrs_list PySem.F.slot_list_append PySem.F.type_list_append mt_append (pv 4) (pa_cons (pe_slice sl_str (pv 6) po_none (po_some (pe_op op_add (pe_ix ix_list (pv 3) (pe_op op_add (pe_op op_mul pe_int (pv 5)) pe_int) (fun _ _ => rfl)) pe_int))) pa_nil))))))
      (pss_cons (ps_set (i := 7) scNames.nd rfl (.inl rfl) (pe_ix ix_list (pv 4) pe_int (fun _ _ => rfl)))
      (pss_cons (ps_set (i := 8) scNames.nd rfl (.inl rfl) (pe_op op_modN (pe_callTy call_int1 (by rfl) B.int (by decide +kernel) (pa_cons (pe_ix ix_list (pv 3) pe_int (fun _ _ => rfl)) pa_nil)) (pe_callB call_len (by rfl) B.len PySem.boot_len (pa_cons (pv 7) pa_nil))))
      (pss_cons (ps_for (PassesOwn.never) rfl (pi_range1 (by rfl) B.range (pa_cons (pv 1) pa_nil)) (pg_name (i := 5) scNames.nd rfl (.inl rfl))
      (pss_cons (ps_if (pt_cmpR op_eq (pe_ix ix_list (pv 3) pe_int (fun _ _ => rfl)) pe_int (nomark _))
       (pss_cons (ps_set (i := 9) scNames.nd rfl (.inl rfl) (pe_ix ix_str (pv 2) (pe_op op_modN (pe_callTy call_int1 (by rfl) B.int (by decide +kernel) (pa_cons (pe_op op_add (pe_ix ix_list (pv 3) pe_int (fun _ _ => rfl)) (pe_op op_mul pe_int (pv 5))) pa_nil)) pe_int) (fun _ _ => rfl)))
        (pss_one (ps_asg (pe_op op_add_str (pe_op op_add_str (pe_slice sl_str (pv 7) po_none (po_some (pv 8))) (pv 9)) (pe_slice sl_str (pv 7) (po_some (pe_op op_add (pv 8) pe_int)) po_none)) (pg_sub (pv 4) (pv 5) set_list))))
       pss_nil)
       (pss_one (ps_if (pt_cmpR op_eq (pe_ix ix_list (pv 3) pe_int (fun _ _ => rfl)) pe_int (nomark _))
       (pss_one (ps_asg (pe_slice sl_str (pe_op RM.op_mulS (pv 7) pe_int) po_none (po_some (pe_op op_add pe_int (pe_op op_modN (pe_callTy call_int1 (by rfl) B.int (by decide +kernel) (pa_cons (pv 5) pa_nil)) pe_int)))) (pg_sub (pv 4) (pv 5) set_list)))
       pss_nil))))
      (pss_one (ps_ret (pv 4)))))))))), ?_⟩
    have z2 : 2 ≤ sizeLine := by decide
    have z9 : 9 ≤ sizeLine := by decide
    refine ⟨.int c, rfl, z2, fun l1 n1 => ⟨z9, fun l2 n2 => ⟨.int 13, rfl, l2, 13, _, rfl, rfl, upd_same, by decide, by decide, (by show 117 ≤ sizeLine; decide), fun l3 n3 => ?_⟩⟩⟩
    have e1 : (upd (upd (upd H l1 (.lst [.int 3, .int 8])) l2 (.lst [.int 8, .int 26, .int 26, .int 26, .int 26, .int 26, .int 26, .int 26, .int 26])) l3 (.lst (List.replicate (13 : Int).toNat [V.int 8, .int 26, .int 26, .int 26, .int 26, .int 26, .int 26, .int 26, .int 26]).flatten)) l1 = some (.lst [.int 3, .int 8]) :=
      (same_new n3).trans (Same.refl _) _ _ (same_new n2 _ _ upd_same)
    refine ⟨l1, l3, _, _, rfl, rfl, e1, upd_same, (by show 119 ≤ sizeLine; decide), fun l4 n4 => ?_⟩
    have s4 := (same_new n1).trans ((same_new n2 (o := .lst [.int 8, .int 26, .int 26, .int 26, .int 26, .int 26, .int 26, .int 26, .int 26])).trans ((same_new n3 (o := .lst (List.replicate (13 : Int).toNat [V.int 8, .int 26, .int 26, .int 26, .int 26, .int 26, .int 26, .int 26, .int 26]).flatten)).trans
      (same_new n4 (o := .lst ([.int 3, .int 8] ++ (List.replicate (13 : Int).toNat [V.int 8, .int 26, .int 26, .int 26, .int 26, .int 26, .int 26, .int 26, .int 26]).flatten)))))
    refine ⟨c, l4, lsN, rfl, SqL.of (by rw [upd_same]; rfl), (by rw [lsN_len]; decide), lsN_pos, fun H5 R rs s5 nR eR hrow => ?_⟩
    have sH5 : Same H H5 := s4.trans s5
    have hrl : rs.length = 119 := by rw [hrow.1, lsN_len]
    obtain ⟨g0, a0, -, -⟩ := hrow.2 0 3 (by decide +kernel)
    obtain ⟨g1, a1, -, -⟩ := hrow.2 1 8 (by decide +kernel)
    have at0 : (rs.map V.int)[0]? = some (.int g0) := by rw [List.getElem?_map, a0]; rfl
    have at1 : (rs.map V.int)[1]? = some (.int g1) := by rw [List.getElem?_map, a1]; rfl
    have at3 : ∃ g3, (rs.map V.int)[3]? = some (.int g3) := by
      obtain ⟨g3, a3, -, -⟩ := hrow.2 3 26 (by decide +kernel)
      exact ⟨g3, by rw [List.getElem?_map, a3]; rfl⟩
    obtain ⟨g3, at3⟩ := at3
    refine ⟨Nat.zero_le _, fun o no => ?_⟩
    have nHo : H o = none := sH5.free no
    refine ⟨.int 13, rfl, 13, rfl, by decide, by decide, ?_⟩
    refine for_range (lo := 0) (n := 13) (fun n σ H' => ∃ (y5 y6 : Option V) (zs : List Str), σ = [some (.int c), some (.int 13), some (.str letters), some (.ref R), some (.ref o), y5, y6, none, none, none, none] ∧ Same H5 H' ∧ H' o = some (.lst (zs.map V.str)) ∧ zs.length = n ∧ ∀ z ∈ zs, (1 ≤ z.length ∧ z.length ≤ 8) ∧ LS z)
      ⟨none, none, [], rfl, same_new no, upd_same, rfl, fun z h => absurd h List.not_mem_nil⟩ ?_ ?_
    · rintro n σ H' hn ⟨y5, y6, zs, rfl, sm, ho, hl, hz⟩
      have e0 : (0 : Int) + (n : Int) = (n : Int) := by omega
      rw [e0]
      have part := row_part hrow (a := 9 * n + 3) (n := 8) (l := 26) (fun j hj => lsN_word n hn j hj)
      have hcut : cutV (rs.map V.int) (some ((9 * n + 3 : Nat) : Int)) (some ((9 * n + 11 : Nat) : Int)) = ((rs.drop (9 * n + 3)).take 8).map V.int := by
        rw [cutV_nat _ (by omega) (by rw [List.length_map]; omega), List.map_take, List.map_drop]; congr 1; omega
      refine ⟨⟨_, rfl⟩, .ref R, rfl, .int (n : Int), rfl, 9, (n : Int), rfl, rfl, .inl ⟨by decide, by decide⟩, _, 3, rfl, rfl, ((9 * n + 3 : Nat) : Int), congrArg V.int (by omega), .int (n : Int), rfl, 9, (n : Int), rfl, rfl, .inl ⟨by decide, by decide⟩, _, 11, rfl, rfl, ((9 * n + 11 : Nat) : Int), congrArg V.int (by omega),
        R, _, rfl, SqL.of (sm _ _ eR), fun cc ncc => ⟨cc, rfl, ⟨_, SqL.of upd_same⟩, fun D hD => ?_⟩⟩
      rw [hcut] at hD ⊢
      refine lc_list (K := K) (a := cc) (xs := ((rs.drop (9 * n + 3)).take 8).map V.int) (fun i H'' => ∃ ys : List Str, H'' D = some (.lst (ys.map V.str)) ∧ ys.length = i ∧ (∀ y ∈ ys, y.length = 1 ∧ LS y) ∧ Same (upd H' cc (.lst (((rs.drop (9 * n + 3)).take 8).map V.int))) H'')
        ⟨[], upd_same, rfl, fun y h => absurd h List.not_mem_nil, same_new hD⟩ (fun i H'' _ ⟨_, _, _, _, s⟩ => SqL.of (s _ _ upd_same)) ?_ ?_
      · rintro i x H'' hi ⟨ys, hD', hyl, hy1, sm2⟩
        rw [List.getElem?_map] at hi
        cases en : ((rs.drop (9 * n + 3)).take 8)[i]? with
        | none => rw [en] at hi; cases hi
        | some z =>
          rw [en] at hi; cases hi
          have hi8 := (List.getElem?_eq_some_iff.mp en).1
          rw [List.length_take] at hi8
          obtain ⟨h0, h1⟩ := part.1 z (List.mem_of_getElem? en)
          obtain ⟨cch, hc, hcm⟩ := pick (z := letters) h0 (by rw [letters_len]; exact h1)
          refine ⟨rfl, .str letters, rfl, .int z, rfl, letters, z, cch, rfl, rfl, (by rw [letters_len]; decide), hc, ys.map V.str, hD', ?_, ys ++ [⟨#[cch]⟩], ?_, ?_, ?_, same_at sm2 hD⟩
          · rw [List.length_map]; exact small1000 (by omega)
          · rw [upd_same, map_snocS]
          · rw [List.length_append, hyl]; rfl
          · intro y hy
            rcases List.mem_append.mp hy with hy | hy
            · exact hy1 y hy
            · rw [List.mem_singleton.mp hy]; exact ⟨one_len cch, LS_one hcm⟩
      · rintro H'' ⟨ys, hD', hyl, hy1, sm2⟩
        have hy8 : ys.length = 8 := by
          rw [hyl, List.length_map, List.length_take, List.length_drop]; omega
        have hw : (Txt.join (Str.ofString "") ys).length = 8 := by rw [join_len (by decide +kernel), sum_ones' (fun y hy => (hy1 y hy).1), hy8]
        have sm3 : Same H' H'' := (same_new ncc).trans sm2
        have ho3 := sm3 _ _ ho
        have sm5 : Same H5 H'' := sm.trans sm3
        refine ⟨_, D, ys, rfl, rfl, .inl (SqL.of hD'), ?_, ?_⟩
        · rw [sum_ones' (fun y hy => (hy1 y hy).1), hy8]; decide +kernel
        obtain ⟨gm, am, gm0, gm1⟩ := hrow.2 (9 * n + 2) 8 (lsN_many n hn)
        have atm : (rs.map V.int)[9 * n + 2]? = some (.int gm) := by rw [List.getElem?_map, am]; rfl
        refine ⟨.ref o, rfl, .inl ⟨rfl, _, SqL.of ho3⟩, .str (Txt.join (Str.ofString "") ys), rfl, .ref R, rfl, .int (n : Int), rfl, 9, (n : Int), rfl, rfl, .inl ⟨by decide, by decide⟩, _, 2, rfl, rfl, R, _, ((9 * n + 2 : Nat) : Int), .int gm, rfl, congrArg V.int (by omega), SqL.of (sm5 _ _ eR), atI_nat atm, gm, 1, rfl, rfl,
          ((gm.toNat + 1 : Nat) : Int), congrArg V.int (by omega), _, rfl, (by rw [hw]; decide), o, _, _, rfl, rfl, ho3, ?_, ?_⟩
        · rw [List.length_map]; exact small1000 (by omega)
        refine ⟨_, _, zs ++ [_], rfl, same_at sm5 no, by rw [upd_same, map_snocS], by rw [List.length_append, hl]; rfl, fun z hzm => ?_⟩
        rcases List.mem_append.mp hzm with hzm | hzm
        · exact hz z hzm
        · rw [List.mem_singleton.mp hzm]
          exact ⟨by rw [cut_len, hw]; omega, LS_cut (LS_join fun y hy => (hy1 y hy).2)⟩
    · rintro σ H' ⟨y5, y6, zs, rfl, sm, ho, hl, hz⟩
      obtain ⟨z0, hz0⟩ : ∃ z0, zs[0]? = some z0 := ⟨_, List.getElem?_eq_getElem (by omega)⟩
      obtain ⟨⟨hp1, hp8⟩, hpL⟩ := hz z0 (List.mem_of_getElem? hz0)
      have zline : z0.length ≤ sizeLine := Nat.le_trans hp8 (by decide)
      have at0z : (zs.map V.str)[0]? = some (.str z0) := by rw [List.getElem?_map, hz0]; rfl
      refine ⟨.ref o, rfl, o, _, 0, .str z0, rfl, rfl, SqL.of ho, atI_nat (j := 0) at0z, ?_⟩
      refine ⟨.ref R, rfl, R, _, 1, .int g1, rfl, rfl, SqL.of (sm _ _ eR), atI_nat (j := 1) at1, .inl ⟨g1, rfl, .str z0, rfl, .str z0, z0.length, rfl, ⟨zline, rfl⟩, g1, (z0.length : Int), rfl, rfl, (show (z0.length : Int) ≠ 0 by omega), ?_⟩⟩
      have m0 : 0 ≤ g1.fmod (z0.length : Int) := Int.fmod_nonneg_of_pos _ (by omega)
      refine ⟨.int 13, rfl, 13, rfl, by decide, by decide, ?_⟩
      refine for_range (lo := 0) (n := 13) (fun n σ H' => ∃ (y5 y6 y9 : Option V) (zs : List Str), σ = [some (.int c), some (.int 13), some (.str letters), some (.ref R), some (.ref o), y5, y6, some (.str z0), some (.int (g1.fmod (z0.length : Int))), y9, none] ∧ Same H5 H' ∧ H' o = some (.lst (zs.map V.str)) ∧ zs.length = 13 ∧ ∀ z ∈ zs, LS z ∧ z.length ≤ 100)
        ⟨_, _, none, zs, rfl, sm, ho, hl, fun z hzm => ⟨(hz z hzm).2, Nat.le_trans (hz z hzm).1.2 (by decide)⟩⟩ ?_ ?_
      · clear ho sm hl hz hz0 at0z
        rintro n σ H' hn ⟨y5, y6, y9, zs, rfl, sm, ho, hl, hzL⟩
        have e0 : (0 : Int) + (n : Int) = (n : Int) := by omega
        rw [e0]
        refine ⟨.ref R, rfl, R, _, 0, .int g0, rfl, rfl, SqL.of (sm _ _ eR), atI_nat (j := 0) at0, rfl, _, rfl, ite2 (fun _ => ?_) (fun _ => ?_)⟩
        · obtain ⟨cch, hc, hcm⟩ := pick (z := letters) (r := (g3 + 5 * (n : Int)).fmod 26) (Int.fmod_nonneg_of_pos _ (by decide)) (by rw [letters_len]; exact Int.fmod_lt_of_pos _ (by decide))
          refine ⟨.str letters, rfl, .ref R, rfl, R, _, 3, .int g3, rfl, rfl, SqL.of (sm _ _ eR), atI_nat (j := 3) at3, .int (n : Int), rfl, 5, (n : Int), rfl, rfl, .inl ⟨by decide, by decide⟩, g3, _, rfl, rfl, .inl ⟨_, rfl, _, 26, rfl, rfl, (show (26 : Int) ≠ 0 by decide), letters, _, cch, rfl, rfl, (by rw [letters_len]; decide), hc, ?_⟩⟩
          have c1 := cut_le z0 none (some (g1.fmod (z0.length : Int)))
          have c2 := cut_le z0 (some (g1.fmod (z0.length : Int) + 1)) none
          have hsL : sizeLine = 16777216 := sizeLine_eq
          have hixn : ixN (zs.map V.str).length (n : Int) = some n := by
            unfold ixN; rw [if_pos (by omega), if_pos (by rw [List.length_map]; omega)]; simp
          refine ⟨.str z0, rfl, .int (g1.fmod (z0.length : Int)), rfl, _, rfl, z0, rfl, zline, _, rfl, _, _, rfl, rfl, ?_, .str z0, rfl, .int (g1.fmod (z0.length : Int)), rfl, _, 1, rfl, rfl, _, rfl, z0, rfl, zline, _, _, rfl, rfl, ?_, .ref o, rfl, .int (n : Int), rfl, o, _, (n : Int), n, rfl, rfl, ho, hixn, ?_⟩
          · rw [one_len]; omega
          · rw [add_len', one_len]; omega
          obtain ⟨zs, hl, ho, sm, hzL⟩ := put_str (n := n) (z := cutS z0 none (some (g1.fmod (z0.length : Int))) ++ ⟨#[cch]⟩ ++ cutS z0 (some (g1.fmod (z0.length : Int) + 1)) none) sm no hl hzL (LS_add (LS_add (LS_cut hpL) (LS_one hcm)) (LS_cut hpL)) (by rw [add_len', add_len', one_len]; omega)
          refine ⟨.ref R, rfl, R, _, 0, .int g0, rfl, rfl, SqL.of (sm _ _ eR), atI_nat (j := 0) at0, rfl, _, rfl, ite2 (fun _ => ?_) (fun _ => ?_)⟩
          · have hixn : ixN (zs.map V.str).length (n : Int) = some n := by
              unfold ixN; rw [if_pos (by omega), if_pos (by rw [List.length_map]; omega)]; simp
            refine ⟨.str z0, rfl, z0, 8, rfl, rfl, by decide, by decide, hp1, by omega, fun z' hz' hzc => ⟨.int (n : Int), rfl, .inl ⟨_, rfl, (n : Int), 8, rfl, rfl, (show (8 : Int) ≠ 0 by decide), 1, _, rfl, rfl, _, rfl, z', rfl, ?_, .ref o, rfl, .int (n : Int), rfl, o, _, (n : Int), n, rfl, rfl, ho, hixn, ?_⟩⟩⟩
            · rw [hz', sizeLine_eq]; omega
            obtain ⟨zs, hl, ho, sm, hzL⟩ := put_str (n := n) (z := cutS z' none (some (1 + (n : Int).fmod 8))) sm no hl hzL (LS_cut fun c hc => hpL c (hzc c hc)) (by have := cut_le z' none (some (1 + (n : Int).fmod 8)); omega)
            exact ⟨_, _, _, zs, rfl, sm, ho, hl, hzL⟩
          · exact ⟨_, _, _, zs, rfl, sm, ho, hl, hzL⟩
        · refine ⟨.ref R, rfl, R, _, 0, .int g0, rfl, rfl, SqL.of (sm _ _ eR), atI_nat (j := 0) at0, rfl, _, rfl, ite2 (fun _ => ?_) (fun _ => ?_)⟩
          · have hixn : ixN (zs.map V.str).length (n : Int) = some n := by
              unfold ixN; rw [if_pos (by omega), if_pos (by rw [List.length_map]; omega)]; simp
            refine ⟨.str z0, rfl, z0, 8, rfl, rfl, by decide, by decide, hp1, by omega, fun z' hz' hzc => ⟨.int (n : Int), rfl, .inl ⟨_, rfl, (n : Int), 8, rfl, rfl, (show (8 : Int) ≠ 0 by decide), 1, _, rfl, rfl, _, rfl, z', rfl, ?_, .ref o, rfl, .int (n : Int), rfl, o, _, (n : Int), n, rfl, rfl, ho, hixn, ?_⟩⟩⟩
            · rw [hz', sizeLine_eq]; omega
            obtain ⟨zs, hl, ho, sm, hzL⟩ := put_str (n := n) (z := cutS z' none (some (1 + (n : Int).fmod 8))) sm no hl hzL (LS_cut fun c hc => hpL c (hzc c hc)) (by have := cut_le z' none (some (1 + (n : Int).fmod 8)); omega)
            exact ⟨_, _, _, zs, rfl, sm, ho, hl, hzL⟩
          · exact ⟨_, _, _, zs, rfl, sm, ho, hl, hzL⟩
      · rintro σ H' ⟨y5, y6, y9, zs, rfl, sm, ho, hl, hzL⟩
        exact ⟨.ref o, rfl, q H' o zs (sH5.trans sm) nHo ho hl hzL⟩
end
end K05

set_option maxRecDepth 100000
set_option maxHeartbeats 8000000
namespace K05
open PySem PySem.Spec PyProof.Rows L2
/-! ### kinds that differ -/
def lst (z : Str) : Option Nat := (tl z).getLast?
theorem lst_add (z : Str) (c : Nat) : lst (z ++ ⟨#[c]⟩) = some c := by
  unfold lst
  rw [tl_add]
  show (tl z ++ [c]).getLast? = _
  simp
theorem twoT {x a b : Str} (h : x = a) : decide (x ∈ [a, b]) = true := decide_eq_true (by rw [h]; exact List.mem_cons_self)
theorem twoF {x a b : Str} (h : ¬ x = a) : decide (V.str x = V.str b) = decide (x ∈ [a, b]) := by
  refine decide_eq_decide.mpr ⟨fun z => by rw [V.str.inj z]; exact List.mem_cons_of_mem _ List.mem_cons_self, fun z => ?_⟩
  rcases List.mem_cons.mp z with z | z
  · exact absurd z h
  · rw [List.mem_singleton.mp z]
theorem letters_nd : (tl letters).Nodup := by decide +kernel
/-- at letter i: the word is new, or each letter ahead ends one of the words -/
def KI (zs : List Str) (w : Str) (i : Nat) : Prop := w ∉ zs ∨ ((∀ j c, j + 1 < i → (tl letters)[j]? = some c → ∃ x ∈ zs, lst x = some c) ∧ ∀ j c, j + 1 = i → (tl letters)[j]? = some c → lst w = some c)
theorem KI.zero (zs : List Str) (w : Str) : KI zs w 0 := .inr ⟨fun j c h => by omega, fun j c h => by omega⟩
theorem KI.all {zs : List Str} {w : Str} {i : Nat} (k : KI zs w i) (hw : w ∈ zs) : ∀ j c, j < i → (tl letters)[j]? = some c → ∃ x ∈ zs, lst x = some c := by
  rcases k with k | ⟨k1, k2⟩
  · exact absurd hw k
  · intro j c hj hc
    by_cases e : j + 1 = i
    · exact ⟨w, hw, k2 j c e hc⟩
    · exact k1 j c (by omega) hc
theorem KI.step {zs : List Str} {w w' : Str} {i c : Nat} (k : KI zs w i) (hw : w ∈ zs) (hc : (tl letters)[i]? = some c) (h' : lst w' = some c) : KI zs w' (i + 1) :=
  .inr ⟨fun j d hj hd => k.all hw j d (by omega) hd, fun j d hj hd => by
    have : j = i := by omega
    subst this
    rw [hc] at hd; cases hd; exact h'⟩
theorem KI.stay {zs : List Str} {w : Str} {i : Nat} (hw : w ∉ zs) : KI zs w (i + 1) := .inl hw
theorem KI.done {zs : List Str} {w : Str} (k : KI zs w 26) (hl : zs.length ≤ 12) : w ∉ zs := fun hw => by
  have h := k.all hw
  have hsub : (tl letters).map some ⊆ zs.map lst := fun o ho => by
    obtain ⟨c, hc, rfl⟩ := List.mem_map.mp ho
    obtain ⟨j, hj⟩ := List.mem_iff_getElem?.mp hc
    have hj26 : j < 26 := by have := (List.getElem?_eq_some_iff.mp hj).1; rw [tl_len, letters_len] at this; exact this
    obtain ⟨x, hx, e⟩ := h j c hj26 hj
    exact List.mem_map.mpr ⟨x, hx, e⟩
  have nd : ((tl letters).map some).Nodup := by decide +kernel
  have := nd.length_le_of_subset hsub
  rw [List.length_map, List.length_map, tl_len, letters_len] at this
  omega
section
variable {P : Program} {w : World} {K : PySem.W.Frag} {mg : Str → Option Value} {base : Heap}
/-! ### _law_may -/
def spMay : Sp := fun vs H Q _ => ∃ o i : Str, vs = [.str o, .str i] ∧ ∀ H', Same H H' → Q (.bl (may o i)) H'
theorem scMay : FnScope ["_law_outer", "_law_inner"] ["_law_outer", "_law_inner"] (defScope sMay) := ⟨rfl, rfl, rfl, by decide +kernel, rfl, by decide +kernel, by decide +kernel⟩
theorem ok_may {f : Addr} {fd : FuncData} (F : Fun K "_law_may" "_law_may" sMay f fd) : FnOk P w K mg base CX0 1 f fd ["_law_outer", "_law_inner"] spMay := by
  refine F.ok scMay (fun vs H Q E h => ?_) (fun cdv A0 outer s H vs Q E hr h => ?_)
  · obtain ⟨o, i, rfl, _⟩ := h; rfl
  · obtain ⟨o, i, rfl, q⟩ := h
    refine ⟨_, (pss_cons (ps_if (pt_cmpR op_eq (pv 0) pe_str (nomark _))
      (pss_one (ps_ret (pe_or (pe_cmpR op_eq (pv 1) pe_str (nomark _)) (pe_one (pe_cmpR op_eq (pv 1) pe_str (nomark _))))))
      pss_nil)
      (pss_cons (ps_if (pt_cmpR op_eq (pv 0) pe_str (nomark _))
      (pss_one (ps_ret (pe_cmpR op_in_seq (pv 1) (pe_lst (pa_cons pe_str (pa_cons pe_str (pa_cons pe_str (pa_cons pe_str pa_nil))))) (by with_unfolding_all rfl))))
      pss_nil)
      (pss_cons (ps_if (PW.pt (pw_or (pt_cmpR op_eq (pv 0) pe_str (nomark _)) (pw_or1 (pt_cmpR op_eq (pv 0) pe_str (nomark _)))))
      (pss_one (ps_ret (pe_or (pe_cmpR op_eq (pv 1) pe_str (nomark _)) (pe_one (pe_cmpR op_eq (pv 1) pe_str (nomark _))))))
      pss_nil)
      (pss_one (ps_ret (pe_and (pe_or (pe_cmpR op_eq (pv 0) pe_str (nomark _)) (pe_one (pe_cmpR op_eq (pv 0) pe_str (nomark _)))) (pe_one (pe_cmpR op_eq (pv 1) pe_str (nomark _))))))))), ?_⟩
    have st : ∀ {a b : Str}, decide (V.str a = V.str b) = true → a = b := fun h => V.str.inj (of_decide_eq_true h)
    have sn : ∀ {a b : Str}, ¬ decide (V.str a = V.str b) = true → ¬ a = b := fun h e => h (by rw [e]; exact decide_eq_true rfl)
    refine ⟨.str o, rfl, rfl, _, rfl, ite2 (fun h1 => ?_) (fun h1 => ?_)⟩
    · have e : inner o = [T "block", T "head"] := by unfold inner; rw [if_pos (st h1)]
      unfold may at q; rw [e] at q
      have q2 := q H (Same.refl H)
      refine ⟨.str i, rfl, rfl, _, rfl, ite2 (fun h => ?_) (fun h => ⟨.str i, rfl, rfl, ?_⟩)⟩
      · rw [twoT (st h)] at q2; exact q2
      · rw [twoF (sn h)]; exact q2
    refine ⟨.str o, rfl, rfl, _, rfl, ite2 (fun h2 => ?_) (fun h2 => ?_)⟩
    · have e : inner o = [T "span", T "note", T "figure", T "ref"] := by unfold inner; rw [if_neg (sn h1), if_pos (st h2)]
      unfold may at q; rw [e] at q
      refine ⟨.str i, rfl, by show 4 ≤ sizeLine; decide, fun l nl => ⟨l, [.str (T "span"), .str (T "note"), .str (T "figure"), .str (T "ref")], rfl, .inl (SqL.of upd_same), rfl, rfl, ?_⟩⟩
      show Q (.bl (inV _ _)) _
      rw [show [V.str (T "span"), V.str (T "note"), V.str (T "figure"), V.str (T "ref")] = [T "span", T "note", T "figure", T "ref"].map V.str from rfl, inV_strs]
      exact q _ (same_new nl)
    have hs : (o = T "head" ∨ o = T "span") → inner o = [T "span", T "ref"] := fun z => by unfold inner; rw [if_neg (sn h1), if_neg (sn h2), if_pos z]
    have fin : (o = T "head" ∨ o = T "span") → Q (.bl (decide (i ∈ [T "span", T "ref"]))) H := fun z => by
      have q2 := q H (Same.refl H)
      unfold may at q2; rw [hs z] at q2; exact q2
    refine ⟨.str o, rfl, rfl, _, rfl, ite2 (fun h3 => ?_) (fun h3 => ?_)⟩
    · have q2 := fin (.inl (st h3))
      refine ⟨.str i, rfl, rfl, _, rfl, ite2 (fun h => ?_) (fun h => ⟨.str i, rfl, rfl, ?_⟩)⟩
      · rw [twoT (st h)] at q2; exact q2
      · rw [twoF (sn h)]; exact q2
    refine ⟨.str o, rfl, rfl, _, rfl, ite2 (fun h4 => ?_) (fun h4 => ?_)⟩
    · have q2 := fin (.inr (st h4))
      refine ⟨.str i, rfl, rfl, _, rfl, ite2 (fun h => ?_) (fun h => ⟨.str i, rfl, rfl, ?_⟩)⟩
      · rw [twoT (st h)] at q2; exact q2
      · rw [twoF (sn h)]; exact q2
    have nhs : ¬ (o = T "head" ∨ o = T "span") := fun z => z.elim (sn h3) (sn h4)
    have q2 := q H (Same.refl H)
    refine ⟨.str o, rfl, rfl, _, rfl, ite2 (fun h5 => ?_) (fun h5 => ?_)⟩
    · have e : inner o = [T "span"] := by unfold inner; rw [if_neg (sn h1), if_neg (sn h2), if_neg nhs, if_pos (.inl (st h5))]
      unfold may at q2; rw [e] at q2
      refine ⟨_, rfl, iteT ⟨.str i, rfl, rfl, ?_⟩⟩
      rw [show decide (V.str i = V.str (T "span")) = decide (i ∈ [T "span"]) from decide_eq_decide.mpr ⟨fun z => by rw [V.str.inj z]; exact List.mem_cons_self, fun z => by rw [List.mem_singleton.mp z]⟩]
      exact q2
    refine ⟨.str o, rfl, rfl, _, rfl, ite2 (fun h6 => ?_) (fun h6 => ?_)⟩
    · have e : inner o = [T "span"] := by unfold inner; rw [if_neg (sn h1), if_neg (sn h2), if_neg nhs, if_pos (.inr (st h6))]
      unfold may at q2; rw [e] at q2
      refine ⟨.str i, rfl, rfl, ?_⟩
      rw [show decide (V.str i = V.str (T "span")) = decide (i ∈ [T "span"]) from decide_eq_decide.mpr ⟨fun z => by rw [V.str.inj z]; exact List.mem_cons_self, fun z => by rw [List.mem_singleton.mp z]⟩]
      exact q2
    · have e : inner o = [] := by unfold inner; rw [if_neg (sn h1), if_neg (sn h2), if_neg nhs, if_neg (fun z => z.elim (sn h5) (sn h6))]
      unfold may at q2; rw [e] at q2
      exact q2
theorem ok_mayH {f : Addr} {fd : FuncData} (F : Fun K "_law_may" "_law_may" sMay f fd) : L2H.FnH P w K mg base CX0 1 f fd ["_law_outer", "_law_inner"] spMay := by
  refine RN.okH F scMay (fun vs H Q E h => ?_) (fun cdv A outer s H vs Q E p0 h => ?_)
  · obtain ⟨o, i, rfl, _⟩ := h; rfl
  · obtain ⟨o, i, rfl, q⟩ := h
    refine ⟨_, PSs.nox (pss_cons (ps_if (pt_cmpR op_eq (pv 0) pe_str (nomark _))
      (pss_one (ps_ret (pe_or (pe_cmpR op_eq (pv 1) pe_str (nomark _)) (pe_one (pe_cmpR op_eq (pv 1) pe_str (nomark _))))))
      pss_nil)
      (pss_cons (ps_if (pt_cmpR op_eq (pv 0) pe_str (nomark _))
      (pss_one (ps_ret (pe_cmpR op_in_seq (pv 1) (pe_lst (pa_cons pe_str (pa_cons pe_str (pa_cons pe_str (pa_cons pe_str pa_nil))))) (by with_unfolding_all rfl))))
      pss_nil)
      (pss_cons (ps_if (PW.pt (pw_or (pt_cmpR op_eq (pv 0) pe_str (nomark _)) (pw_or1 (pt_cmpR op_eq (pv 0) pe_str (nomark _)))))
      (pss_one (ps_ret (pe_or (pe_cmpR op_eq (pv 1) pe_str (nomark _)) (pe_one (pe_cmpR op_eq (pv 1) pe_str (nomark _))))))
      pss_nil)
      (pss_one (ps_ret (pe_and (pe_or (pe_cmpR op_eq (pv 0) pe_str (nomark _)) (pe_one (pe_cmpR op_eq (pv 0) pe_str (nomark _)))) (pe_one (pe_cmpR op_eq (pv 1) pe_str (nomark _))))))))), ?_⟩
    have st : ∀ {a b : Str}, decide (V.str a = V.str b) = true → a = b := fun h => V.str.inj (of_decide_eq_true h)
    have sn : ∀ {a b : Str}, ¬ decide (V.str a = V.str b) = true → ¬ a = b := fun h e => h (by rw [e]; exact decide_eq_true rfl)
    refine ⟨.str o, rfl, rfl, _, rfl, ite2 (fun h1 => ?_) (fun h1 => ?_)⟩
    · have e : inner o = [T "block", T "head"] := by unfold inner; rw [if_pos (st h1)]
      unfold may at q; rw [e] at q
      have q2 := q H (Same.refl H)
      refine ⟨.str i, rfl, rfl, _, rfl, ite2 (fun h => ?_) (fun h => ⟨.str i, rfl, rfl, ?_⟩)⟩
      · rw [twoT (st h)] at q2; exact q2
      · rw [twoF (sn h)]; exact q2
    refine ⟨.str o, rfl, rfl, _, rfl, ite2 (fun h2 => ?_) (fun h2 => ?_)⟩
    · have e : inner o = [T "span", T "note", T "figure", T "ref"] := by unfold inner; rw [if_neg (sn h1), if_pos (st h2)]
      unfold may at q; rw [e] at q
      refine ⟨.str i, rfl, by show 4 ≤ sizeLine; decide, fun l nl => ⟨l, [.str (T "span"), .str (T "note"), .str (T "figure"), .str (T "ref")], rfl, .inl (SqL.of upd_same), rfl, rfl, ?_⟩⟩
      show Q (.bl (inV _ _)) _
      rw [show [V.str (T "span"), V.str (T "note"), V.str (T "figure"), V.str (T "ref")] = [T "span", T "note", T "figure", T "ref"].map V.str from rfl, inV_strs]
      exact q _ (same_new nl)
    have hs : (o = T "head" ∨ o = T "span") → inner o = [T "span", T "ref"] := fun z => by unfold inner; rw [if_neg (sn h1), if_neg (sn h2), if_pos z]
    have fin : (o = T "head" ∨ o = T "span") → Q (.bl (decide (i ∈ [T "span", T "ref"]))) H := fun z => by
      have q2 := q H (Same.refl H)
      unfold may at q2; rw [hs z] at q2; exact q2
    refine ⟨.str o, rfl, rfl, _, rfl, ite2 (fun h3 => ?_) (fun h3 => ?_)⟩
    · have q2 := fin (.inl (st h3))
      refine ⟨.str i, rfl, rfl, _, rfl, ite2 (fun h => ?_) (fun h => ⟨.str i, rfl, rfl, ?_⟩)⟩
      · rw [twoT (st h)] at q2; exact q2
      · rw [twoF (sn h)]; exact q2
    refine ⟨.str o, rfl, rfl, _, rfl, ite2 (fun h4 => ?_) (fun h4 => ?_)⟩
    · have q2 := fin (.inr (st h4))
      refine ⟨.str i, rfl, rfl, _, rfl, ite2 (fun h => ?_) (fun h => ⟨.str i, rfl, rfl, ?_⟩)⟩
      · rw [twoT (st h)] at q2; exact q2
      · rw [twoF (sn h)]; exact q2
    have nhs : ¬ (o = T "head" ∨ o = T "span") := fun z => z.elim (sn h3) (sn h4)
    have q2 := q H (Same.refl H)
    refine ⟨.str o, rfl, rfl, _, rfl, ite2 (fun h5 => ?_) (fun h5 => ?_)⟩
    · have e : inner o = [T "span"] := by unfold inner; rw [if_neg (sn h1), if_neg (sn h2), if_neg nhs, if_pos (.inl (st h5))]
      unfold may at q2; rw [e] at q2
      refine ⟨_, rfl, iteT ⟨.str i, rfl, rfl, ?_⟩⟩
      rw [show decide (V.str i = V.str (T "span")) = decide (i ∈ [T "span"]) from decide_eq_decide.mpr ⟨fun z => by rw [V.str.inj z]; exact List.mem_cons_self, fun z => by rw [List.mem_singleton.mp z]⟩]
      exact q2
    refine ⟨.str o, rfl, rfl, _, rfl, ite2 (fun h6 => ?_) (fun h6 => ?_)⟩
    · have e : inner o = [T "span"] := by unfold inner; rw [if_neg (sn h1), if_neg (sn h2), if_neg nhs, if_pos (.inr (st h6))]
      unfold may at q2; rw [e] at q2
      refine ⟨.str i, rfl, rfl, ?_⟩
      rw [show decide (V.str i = V.str (T "span")) = decide (i ∈ [T "span"]) from decide_eq_decide.mpr ⟨fun z => by rw [V.str.inj z]; exact List.mem_cons_self, fun z => by rw [List.mem_singleton.mp z]⟩]
      exact q2
    · have e : inner o = [] := by unfold inner; rw [if_neg (sn h1), if_neg (sn h2), if_neg nhs, if_neg (fun z => z.elim (sn h5) (sn h6))]
      unfold may at q2; rw [e] at q2
      exact q2
/-! ### _law_kinds -/
def spKinds : Sp := fun vs H Q _ => ∃ (c : Int), vs = [.int c, .int 13] ∧ ∀ (H' : Hp) (p : Addr) (zs : List Str), Same H H' → H p = none → H' p = some (.lst (zs.map V.str)) → zs.length = 13 → zs.Nodup → (∀ z ∈ zs, okS z) → Q (.ref p) H'
abbrev nKi : List Str := ["_law_cell_here", "_law_many", "_law_kinds_here", "_law_word", "_law_letter"]
theorem scKinds : FnScope nKi ["_law_cell_here", "_law_many"] (defScope sKinds) := ⟨rfl, rfl, rfl, by decide +kernel, rfl, by decide +kernel, by decide +kernel⟩
theorem ok_kinds {f f_names f_row : Addr} {fd fd_names fd_row : FuncData} (B : Blt mg) (F : Fun K "_law_kinds" "_law_kinds" sKinds f fd)
    (F_names : Fun K "_law_names" "_law_names" sNames f_names fd_names) (b_names : Binds K fd_names ["_law_cell_here", "_law_many"] []) (g_names : mg "_law_names" = some (.ref f_names))
    (F_row : Fun K "_law_row" "_law_row" sRow f_row fd_row) (b_row : Binds K fd_row ["_law_cell_here", "_law_limits"] []) (g_row : mg "_law_row" = some (.ref f_row)) :
    FnOk P w K mg base CX0 3 f fd ["_law_cell_here", "_law_many"] spKinds := by
  have G_names : FnOk P w K mg base CX0 2 f_names fd_names ["_law_cell_here", "_law_many"] spNames := ok_names B F_names F_row b_row g_row
  refine F.ok scKinds (fun vs H Q E h => ?_) (fun cdv A0 outer s H vs Q E hr h => ?_)
  · obtain ⟨c, rfl, _⟩ := h; rfl
  · obtain ⟨c, rfl, q⟩ := h
    refine ⟨_, (pss_cons (ps_set (i := 2) scKinds.nd rfl (.inl rfl) (pe_lst pa_nil))
      (pss_cons (ps_for (PassesOwn.never) rfl (pi_list (pe_call G_names hr (by rfl) g_names F_names.kp b_names .nil pass0 (pa_cons (pv 0) (pa_cons (pv 1) pa_nil)))) (pg_name (i := 3) scKinds.nd rfl (.inl rfl))
      (pss_cons (ps_for (PassesOwn.never) rfl (pi_str pe_str) (pg_name (i := 4) scKinds.nd rfl (.inl rfl))
       (pss_one (ps_if (pt_cmpR op_in_seq (pv 3) (pv 2) (by with_unfolding_all rfl))
        (pss_one (ps_set (i := 3) scKinds.nd rfl (.inl rfl) (pe_op op_add_str (pe_slice sl_str (pv 3) po_none (po_some pe_int)) (pv 4))))
        pss_nil)))
       (pss_one (ps_expr (pe_bm PySem.F.plainAttrs_list PySem.F.slot_list_append PySem.F.type_list_append mt_append (pv 2) (pa_cons (pv 3) pa_nil))))))
      (pss_one (ps_ret (pv 2))))), ?_⟩
    refine ⟨Nat.zero_le _, fun o no => ?_⟩
    have s1 : Same H (upd H o (.lst [])) := same_new no
    have eo : (upd H o (.lst [])) o = some (.lst (([] : List Str).map V.str)) := upd_same
    generalize upd H o (.lst []) = H1 at s1 eo ⊢
    refine ⟨.int c, rfl, .int 13, rfl, c, rfl, fun H2 R ws s2 nR hR hwl hwL => ⟨R, rfl, ⟨_, SqL.of hR⟩, ?_⟩⟩
    have eo2 := s2 _ _ eo
    refine for_list (K := K) (a := R) (xs := ws.map V.str) (fun n σ H' => ∃ (y3 y4 : Option V) (zs : List Str), σ = [some (.int c), some (.int 13), some (.ref o), y3, y4] ∧ Same H H' ∧ H' R = some (.lst (ws.map V.str)) ∧ H' o = some (.lst (zs.map V.str)) ∧ zs.length = n ∧ zs.Nodup ∧ ∀ z ∈ zs, okS z)
      ⟨none, none, [], rfl, s1.trans s2, hR, eo2, rfl, List.nodup_nil, fun z h => nomatch h⟩ (fun n σ H' _ ⟨_, _, _, _, _, h, _⟩ => SqL.of h) ?_ ?_
    · rintro n x σ H' hn ⟨y3, y4, zs, rfl, sm, hR', ho, hl, hnd, hzo⟩
      rw [List.getElem?_map] at hn
      cases en : ws[n]? with
      | none => rw [en] at hn; cases hn
      | some wd =>
      rw [en] at hn; cases hn
      have hn13 : n < 13 := by have := (List.getElem?_eq_some_iff.mp en).1; omega
      obtain ⟨hL0, hlen0⟩ := hwL wd (List.mem_of_getElem? en)
      refine ⟨_, rfl, ?_⟩
      refine for_it walk_str (fun i σ H'' => ∃ (wd : Str) (y4 : Option V), σ = [some (.int c), some (.int 13), some (.ref o), some (.str wd), y4] ∧ H'' = H' ∧ KI zs wd i ∧ LS wd ∧ wd.length ≤ 100) ⟨wd, _, rfl, rfl, KI.zero _ _, hL0, hlen0⟩ (fun _ _ _ _ _ => trivial) ?_ ?_
      · rintro i v σ H1 H2 hi ⟨wd, y4, rfl, rfl, hk, hL, hlen⟩ ⟨rfl, ch, hc, rfl⟩
        have hc' : (tl letters)[i]? = some ch := by simpa [tl, letters] using hc
        refine ⟨.str wd, rfl, .ref o, rfl, o, zs.map V.str, rfl, .inl (SqL.of ho), rfl, flat_strs _, _, rfl, ?_⟩
        show (if (inV _ _) = true then _ else _)
        rw [inV_strs]
        have hsL : sizeLine = 16777216 := sizeLine_eq
        refine ite2 (fun hin => ?_) (fun hin => ?_)
        · have c7 := cut_le wd none (some 7)
          refine ⟨.str wd, rfl, 7, rfl, wd, rfl, by omega, .str ⟨#[ch]⟩, rfl, _, ⟨#[ch]⟩, rfl, rfl, ?_, _, _, rfl, rfl, hk.step (of_decide_eq_true hin) hc' (lst_add _ _), LS_add (LS_cut hL) (LS_one (List.mem_of_getElem? hc')), ?_⟩
          · rw [one_len]; omega
          · rw [add_len', one_len, show (some (7 : Int)) = some ((7 : Nat) : Int) from rfl, cut_len]; omega
        · exact ⟨wd, _, rfl, rfl, KI.stay (fun z => hin (decide_eq_true z)), hL, hlen⟩
      · rintro σ H'' ⟨wd, y4, rfl, rfl, hk, hL, hlen⟩
        have hnew := hk.done (by omega)
        have hsz : (zs.map V.str).length < sizeLine := by rw [List.length_map]; exact small1000 (by omega)
        have hRo : R ≠ o := fun e => by subst e; rw [nR] at eo; cases eo
        refine ⟨.ref o, rfl, .inl ⟨rfl, _, SqL.of ho⟩, .str wd, rfl, o, _, _, rfl, rfl, ho, hsz, _, _, zs ++ [wd], rfl, same_at sm no, by rw [upd_ne hRo]; exact hR', by rw [upd_same, map_snocS], by rw [List.length_append, hl]; rfl, ?_, ?_⟩
        · rw [List.nodup_append]
          exact ⟨hnd, by simp, fun a ha b hb => by rw [List.mem_singleton.mp hb]; exact fun e => hnew (e ▸ ha)⟩
        · intro z hz
          rcases List.mem_append.mp hz with hz | hz
          · exact hzo z hz
          · rw [List.mem_singleton.mp hz]; exact LS_ok hL
    · rintro σ H' ⟨y3, y4, zs, rfl, sm, hR', ho, hl, hnd, hzo⟩
      exact ⟨.ref o, rfl, q H' o zs sm no ho (by rw [hl, List.length_map, hwl]) hnd hzo⟩
end
end K05

set_option maxRecDepth 100000
set_option maxHeartbeats 8000000
namespace K05
open PySem PySem.Spec PyProof.Rows L2
/-! ### a good grammar -/
theorem takenF_nodup : ∀ (l seen : List Str), (seen ++ l).Nodup → takenF seen l = none
  | [], _, _ => rfl
  | c :: l, seen, h => by
    have hn : c ∉ seen := fun m => by
      rw [List.nodup_append] at h
      exact h.2.2 c m c List.mem_cons_self rfl
    unfold takenF
    rw [if_neg hn]
    exact takenF_nodup l (seen ++ [c]) (by rw [List.append_assoc]; exact h)
theorem find_nodup : ∀ {rs : List Rw}, (ks rs).Nodup → ∀ {r : Rw}, r ∈ rs → rs.find? (fun x => decide (x.k = r.k)) = some r
  | [], _, _, h => nomatch h
  | x :: rs, nd, r, h => by
    have nd' : x.k ∉ ks rs ∧ (ks rs).Nodup := List.nodup_cons.mp nd
    rw [List.find?_cons]
    by_cases e : x.k = r.k
    · rw [decide_eq_true e]
      rcases List.mem_cons.mp h with h | h
      · rw [h]
      · exact absurd (List.mem_map.mpr ⟨r, h, e.symm⟩) nd'.1
    · rw [decide_eq_false e]
      rcases List.mem_cons.mp h with h | h
      · exact absurd (by rw [h]) e
      · exact find_nodup nd'.2 h
theorem roleOf_nodup {rs : List Rw} (nd : (ks rs).Nodup) {r : Rw} (h : r ∈ rs) : roleOf rs r.k = some r.r := by
  unfold roleOf
  rw [find_nodup nd h]; rfl
theorem innF_good {rs : List Rw} {o : Str} : ∀ {l : List Str}, (∀ c ∈ l, ∃ r, roleOf rs c = some r ∧ may o r = true) → innF rs o l = .good
  | [], _ => rfl
  | c :: l, h => by
    obtain ⟨r, h1, h2⟩ := h c List.mem_cons_self
    unfold innF
    rw [h1]
    show (if may o r = true then _ else _) = _
    rw [if_pos h2]
    exact innF_good fun x hx => h x (List.mem_cons_of_mem _ hx)
theorem rowsF_good {rs : List Rw} : ∀ {l : List Rw}, (∀ r ∈ l, innF rs r.r r.ins = .good) → rowsF rs l = .good
  | [], _ => rfl
  | r :: l, h => by
    unfold rowsF
    rw [h r List.mem_cons_self]
    exact rowsF_good fun x hx => h x (List.mem_cons_of_mem _ hx)
theorem due_good {rs : List Rw} {top : Rw} (nd : (ks rs).Nodup) (ht : top ∈ rs) (hr : top.r = T "root") (h : ∀ r ∈ rs, ∀ c ∈ r.ins, ∃ x ∈ rs, x.k = c ∧ may r.r x.r = true) : dueOf top.k rs = .good := by
  unfold dueOf
  rw [takenF_nodup _ [] (by simpa using nd), roleOf_nodup nd ht]
  show (if top.r = T "root" then _ else _) = _
  rw [if_pos hr]
  exact rowsF_good fun r hr => innF_good fun c hc => by
    obtain ⟨x, hx, rfl, hm⟩ := h r hr c hc
    exact ⟨x.r, roleOf_nodup nd hx, hm⟩
def lsG (m : Nat) : List Int := [(m : Int), 2] ++ (List.replicate m [9, 4096, (m : Int)]).flatten
theorem lsG_at : ∀ m, m < 13 → ∀ k, k < m → (lsG m)[3 * k + 2]? = some 9 ∧ (lsG m)[3 * k + 3]? = some 4096 ∧ (lsG m)[3 * k + 4]? = some (m : Int) := by decide +kernel
theorem lsG_pos : ∀ m, m < 13 → 0 < m → (∀ l ∈ lsG m, 0 < l ∧ l < 1000000) ∧ (lsG m).length ≤ 1000 := by decide +kernel
theorem lsG_V (m : Nat) : [V.int (m : Int), .int 2] ++ (List.replicate (m : Int).toNat [V.int 9, .int 4096, .int (m : Int)]).flatten = (lsG m).map V.int := by
  unfold lsG
  rw [Int.toNat_natCast, List.map_append, List.map_flatten, List.map_replicate]; rfl
def menu : List Str := [T "block", T "span", T "head", T "note", T "figure", T "ref", T "block", T "span", T "root"]
theorem menu_roles : ∀ r ∈ menu, r ∈ roles := by decide +kernel
theorem i_at {rs : List Int} {i : Nat} {r : Int} (h : rs[i]? = some r) : (rs.map V.int)[i]? = some (.int r) := by rw [List.getElem?_map, h]; rfl
theorem s_at {rs : List Str} {i : Nat} {r : Str} (h : rs[i]? = some r) : (rs.map V.str)[i]? = some (.str r) := by rw [List.getElem?_map, h]; rfl
theorem menu_at {g : Int} (h0 : 0 ≤ g) (h1 : g < 9) : ∃ r, menu[g.toNat]? = some r ∧ r ∈ roles := by
  have hl : g.toNat < menu.length := by show g.toNat < 9; omega
  exact ⟨_, List.getElem?_eq_getElem hl, menu_roles _ (List.getElem_mem hl)⟩
/-- what the rows drawn so far are -/
structure Drw (zs rl : List Str) (rs : List Rw) : Prop where
  kinds : ks rs = zs.take rs.length
  rls : rs.map (·.r) = rl.take rs.length
  ins : ∀ r ∈ rs, ∀ c ∈ r.ins, ∃ (a : Nat) (ro : Str), zs[a]? = some c ∧ rl[a]? = some ro ∧ may r.r ro = true
theorem Drw.due {zs rl : List Str} {rs : List Rw} (d : Drw zs rl rs) (hz : rs.length = zs.length) (hr : rl.length = zs.length) (nd : zs.Nodup) {g : Nat} {top : Str} (h1 : zs[g]? = some top) (h2 : rl[g]? = some (T "root")) : ks rs = zs ∧ dueOf top rs = .good := by
  have e1 : ks rs = zs := by rw [d.kinds, hz, List.take_length]
  have e2 : rs.map (·.r) = rl := by rw [d.rls, hz, ← hr, List.take_length]
  refine ⟨e1, ?_⟩
  have row : ∀ (a : Nat) (c ro : Str), zs[a]? = some c → rl[a]? = some ro → ∃ x ∈ rs, x.k = c ∧ x.r = ro := fun a c ro ha hb => by
    have hl : a < rs.length := by rw [hz]; exact (List.getElem?_eq_some_iff.mp ha).1
    have hx := List.getElem?_eq_getElem hl
    refine ⟨rs[a], List.getElem_mem hl, ?_, ?_⟩
    · rw [← e1, List.getElem?_map, hx] at ha; cases ha; rfl
    · rw [← e2, List.getElem?_map, hx] at hb; cases hb; rfl
  obtain ⟨x, hx, hk, hro⟩ := row g top _ h1 h2
  rw [← hk]
  refine due_good (by rw [e1]; exact nd) hx hro fun r hr c hc => ?_
  obtain ⟨a, ro, h3, h4, h5⟩ := d.ins r hr c hc
  obtain ⟨y, hy, hyk, hyr⟩ := row a c ro h3 h4
  exact ⟨y, hy, hyk, by rw [hyr]; exact h5⟩
section
variable {P : Program} {w : World} {K : PySem.W.Frag} {mg : Str → Option Value} {base : Heap}
/-! ### _law_grammar -/
def spGrammar (K : PySem.W.Frag) : Sp := fun vs H Q _ => ∃ (c : Int) (a : Addr) (zs : List Str), vs = [.int c, .ref a] ∧ H a = some (.lst (zs.map V.str)) ∧ 1 ≤ zs.length ∧ zs.length ≤ 12 ∧ zs.Nodup ∧ (∀ z ∈ zs, okS z) ∧
  ∀ (H' : Hp) (t l : Addr) (top : Str) (rs : List Rw), Same H H' → H' t = some (.tup [.str top, .ref l]) → RowsAt K H' l rs → ks rs = zs → (∀ r ∈ rs, r.ins.length ≤ 12) → top ∈ zs → dueOf top rs = .good → Q (.ref t) H'
abbrev nGr : List Str := ["_law_cell_here", "_law_kinds_here", "_law_many", "_law_row_here", "_law_menu", "_law_roles", "_law_rows", "_law_k", "_law_bits", "_law_inner", "_law_j", "_law_at"]
theorem scGrammar : FnScope nGr ["_law_cell_here", "_law_kinds_here"] (defScope sGrammar) := ⟨rfl, rfl, rfl, by decide +kernel, rfl, by decide +kernel, by decide +kernel⟩
theorem ok_grammar {f f_may f_row : Addr} {fd fd_may fd_row : FuncData} (B : Blt mg) (F : Fun K "_law_grammar" "_law_grammar" sGrammar f fd)
    (F_may : Fun K "_law_may" "_law_may" sMay f_may fd_may) (b_may : Binds K fd_may ["_law_outer", "_law_inner"] []) (g_may : mg "_law_may" = some (.ref f_may))
    (F_row : Fun K "_law_row" "_law_row" sRow f_row fd_row) (b_row : Binds K fd_row ["_law_cell_here", "_law_limits"] []) (g_row : mg "_law_row" = some (.ref f_row)) :
    FnOk P w K mg base CX0 2 f fd ["_law_cell_here", "_law_kinds_here"] (spGrammar K) := by
  have G_may : FnOk P w K mg base CX0 1 f_may fd_may ["_law_outer", "_law_inner"] spMay := ok_may F_may
  have G_row : FnOk P w K mg base CX0 1 f_row fd_row ["_law_cell_here", "_law_limits"] (spRow K) := ok_row B F_row
  refine F.ok scGrammar (fun vs H Q E h => ?_) (fun cdv A0 outer s H vs Q E hr h => ?_)
  · obtain ⟨c, a, zs, rfl, _⟩ := h; rfl
  · obtain ⟨c, a, zs, rfl, ha, hz1, hz12, hnd, hzo, q⟩ := h
    refine ⟨_, (pss_cons (ps_set (i := 2) scGrammar.nd rfl (.inl rfl) (pe_callB call_len (by rfl) B.len PySem.boot_len (pa_cons (pv 1) pa_nil)))
      (pss_cons (ps_set (i := 3) scGrammar.nd rfl (.inr rfl) (pe_call G_row hr (by rfl) g_row F_row.kp b_row .nil pass0 (pa_cons (pv 0) (pa_cons (pe_op op_cat (pe_lst (pa_cons (pv 2) (pa_cons pe_int pa_nil))) (pe_op op_rep (pe_lst (pa_cons pe_int (pa_cons pe_int (pa_cons (pv 2) pa_nil)))) (pv 2))) pa_nil))))
      (pss_cons (ps_set (i := 4) scGrammar.nd rfl (.inr rfl) (pe_lst (pa_cons pe_str (pa_cons pe_str (pa_cons pe_str (pa_cons pe_str (pa_cons pe_str (pa_cons pe_str (pa_cons pe_str (pa_cons pe_str (pa_cons pe_str pa_nil)))))))))))
      (pss_cons (ps_setLc (i := 5) (own := [("_law_k", 7)]) (g := gName 7) (tt := tYes) rfl scGrammar.nd rfl rfl (sw_true rfl rfl rfl (by decide +kernel)) (pi_range1 (by rfl) B.range (pa_cons (pv 2) pa_nil)) (blkOk_by (N := nGr) (sc := defScope sGrammar) (by decide +kernel)) (fun _ _ _ _ _ => (pg_name (i := 7) scGrammar.nd rfl (.inl rfl))) (fun _ _ _ _ _ => pts_nil) (fun _ _ _ _ _ => (pe_ix (show IxR _ (rIxL K) from ix_list) (pv 4) (pe_ix (show IxR _ (rIxL K) from ix_list) (pv 3) (pe_op op_add (pe_op op_mul pe_int (pv 7)) pe_int) (fun _ _ => rfl)) (fun _ _ => rfl))))
      (pss_cons (ps_asg pe_str (pg_sub (pv 5) (pe_ix ix_list (pv 3) pe_int (fun _ _ => rfl)) set_list))
      (pss_cons (ps_set (i := 6) scGrammar.nd rfl (.inl rfl) (pe_lst pa_nil))
      (pss_cons (ps_for (PassesOwn.never) rfl (pi_range1 (by rfl) B.range (pa_cons (pv 2) pa_nil)) (pg_name (i := 7) scGrammar.nd rfl (.inl rfl))
      (pss_cons (ps_par (i := 8) (j := 9) (by rfl) scGrammar.nd rfl rfl (by decide) rfl rfl (pa_cons (pe_ix ix_list (pv 3) (pe_op op_add (pe_op op_mul pe_int (pv 7)) pe_int) (fun _ _ => rfl)) (pa_cons (pe_lst pa_nil) pa_nil)) (by rfl))
       (pss_cons (ps_for (PassesOwn.never) rfl (pi_range1 (by rfl) B.range (pa_cons (pv 2) pa_nil)) (pg_name (i := 10) scGrammar.nd rfl (.inl rfl))
       (pss_cons (ps_set (i := 11) scGrammar.nd rfl (.inl rfl) (pe_op op_modN (pe_callTy call_int1 (by rfl) B.int (by decide +kernel) (pa_cons (pe_op op_add (pv 10) (pe_ix ix_list (pv 3) (pe_op op_add (pe_op op_mul pe_int (pv 7)) pe_int) (fun _ _ => rfl))) pa_nil)) (pv 2)))
        (pss_cons (ps_if (PW.pt (pw_and (pt_cmpR op_eq (pe_op op_modN (pe_callTy call_int1 (by rfl) B.int (by decide +kernel) (pa_cons (pv 8) pa_nil)) pe_int) pe_int (nomark _)) (pw_and1 (pt_val (pe_call G_may hr (by rfl) g_may F_may.kp b_may .nil pass0 (pa_cons (pe_ix ix_list (pv 5) (pv 7) (fun _ _ => rfl)) (pa_cons (pe_ix ix_list (pv 5) (pv 11) (fun _ _ => rfl)) pa_nil)))))))
        (pss_one (ps_expr (pe_bm PySem.F.plainAttrs_list PySem.F.slot_list_append PySem.F.type_list_append mt_append (pv 9) (pa_cons (pe_ix ix_list (pv 1) (pv 11) (fun _ _ => rfl)) pa_nil))))
        pss_nil)
        (pss_one (ps_set (i := 8) scGrammar.nd rfl (.inl rfl) (pe_op op_fdivN (pv 8) pe_int))))))
       (Evl.pss_cut (ps_if (pt_cmpR op_eq (pe_ix ix_list (pv 3) pe_int (fun _ _ => rfl)) pe_int (nomark _))
       (pss_one (ps_expr (pe_bm0 PySem.F.plainAttrs_list PySem.F.slot_list_reverse PySem.F.type_list_reverse mt_reverse (pv 9))))
       pss_nil)
       (pss_one (ps_expr (pe_bm PySem.F.plainAttrs_list PySem.F.slot_list_append PySem.F.type_list_append mt_append (pv 6) (pa_cons (pe_tup (pa_cons (pe_ix ix_list (pv 1) (pv 7) (fun _ _ => rfl)) (pa_cons (pe_ix ix_list (pv 5) (pv 7) (fun _ _ => rfl)) (pa_cons (pe_callTy call_tuple_of (by rfl) B.tuple (by decide +kernel) (pa_cons (pv 9) pa_nil)) pa_nil)))) pa_nil))))))))
      (pss_one (ps_ret (pe_tup (pa_cons (pe_ix ix_list (pv 1) (pe_ix ix_list (pv 3) pe_int (fun _ _ => rfl)) (fun _ _ => rfl)) (pa_cons (pv 6) pa_nil)))))))))))), ?_⟩
    have hm13 : zs.length < 13 := by omega
    obtain ⟨m, hm⟩ : ∃ m, m = zs.length := ⟨_, rfl⟩
    rw [← hm] at hz1 hz12 hm13
    refine ⟨.ref a, rfl, .ref a, m, rfl, .inl ⟨_, SqL.of ha, by rw [List.length_map, hm]⟩, ?_⟩
    refine ⟨.int c, rfl, .int (m : Int), rfl, by show 2 ≤ sizeLine; decide, fun l1 n1 => ⟨.int (m : Int), rfl, by show 3 ≤ sizeLine; decide, fun l2 n2 => ⟨.int (m : Int), rfl, l2, (m : Int), _, rfl, rfl, upd_same, by omega, by omega, (by show 3 * (m : Int).toNat ≤ sizeLine; rw [sizeLine_eq]; omega), fun l3 n3 => ?_⟩⟩⟩
    have e1 : (upd (upd (upd H l1 (.lst [.int (m : Int), .int 2])) l2 (.lst [.int 9, .int 4096, .int (m : Int)])) l3 (.lst (List.replicate (m : Int).toNat [V.int 9, .int 4096, .int (m : Int)]).flatten)) l1 = some (.lst [.int (m : Int), .int 2]) :=
      (same_new n3).trans (Same.refl _) _ _ (same_new n2 _ _ upd_same)
    refine ⟨l1, l3, _, _, rfl, rfl, e1, upd_same, (by
      have := (lsG_pos m hm13 hz1).2
      have e := congrArg List.length (lsG_V m)
      rw [List.length_map, List.length_append] at e
      show _ + _ ≤ sizeLine
      rw [sizeLine_eq]; omega), fun l4 n4 => ?_⟩
    have s4 := (same_new n1).trans ((same_new n2 (o := .lst [.int 9, .int 4096, .int (m : Int)])).trans ((same_new n3 (o := .lst (List.replicate (m : Int).toNat [V.int 9, .int 4096, .int (m : Int)]).flatten)).trans
      (same_new n4 (o := .lst ([.int (m : Int), .int 2] ++ (List.replicate (m : Int).toNat [V.int 9, .int 4096, .int (m : Int)]).flatten)))))
    obtain ⟨lp, ll⟩ := lsG_pos m hm13 hz1
    refine ⟨c, l4, lsG m, rfl, SqL.of (by rw [upd_same, lsG_V]), ll, lp, fun H5 R gs s5 nR hR hrow => ?_⟩
    have s05 : Same H H5 := s4.trans s5
    clear s4 s5 e1 nR n1 n2 n3 n4
    have gat : ∀ {i : Nat} {l : Int}, (lsG m)[i]? = some l → ∃ g, gs[i]? = some g ∧ 0 ≤ g ∧ g < l := fun h => hrow.2 _ _ h
    obtain ⟨g0, a0, b0, d0⟩ := gat (i := 0) (l := (m : Int)) rfl
    obtain ⟨g1, a1, b1, d1⟩ := gat (i := 1) (l := 2) rfl
    refine ⟨by show 9 ≤ sizeLine; decide, fun M nM => ?_⟩
    have sM := same_new nM (o := .lst (menu.map V.str))
    have hM : (upd H5 M (.lst (menu.map V.str))) M = some (.lst (menu.map V.str)) := upd_same
    have hR6 := sM _ _ hR
    have s06 := s05.trans sM
    have nHD0 : ∀ D, (upd H5 M (.lst (menu.map V.str))) D = none → H D = none := fun D h => s06.free h
    refine ⟨.int (m : Int), rfl, (m : Int), rfl, by omega, by omega, fun D hD => ?_⟩
    rw [Int.toNat_natCast]
    have nHD := nHD0 D hD
    have nMD : M ≠ D := ne_of_none hM hD
    have nRD : R ≠ D := ne_of_none hR6 hD
    refine lc_range (lo := 0) (n := m) (fun i H' => ∃ us : List Str, H' D = some (.lst (us.map V.str)) ∧ us.length = i ∧ (∀ u ∈ us, u ∈ roles) ∧ Same H H' ∧ H' M = some (.lst (menu.map V.str)) ∧ H' R = some (.lst (gs.map V.int))) ⟨[], upd_same, rfl, (fun u h => nomatch h), same_new2 s06 hD, by rw [upd_ne nMD]; exact hM, by rw [upd_ne nRD]; exact hR6⟩ ?_ ?_
    · rintro i H' hi ⟨us, hu, hul, hur, sm, hM', hR'⟩
      obtain ⟨k9, _, _⟩ := lsG_at m hm13 i hi
      obtain ⟨r1, e1, p1, q1⟩ := gat k9
      obtain ⟨ro, hro, hrr⟩ := menu_at p1 q1
      refine ⟨rfl, .ref M, rfl, .ref R, rfl, .int (0 + (i : Int)), rfl, 3, _, rfl, rfl, .inl ⟨by decide, by decide⟩, _, 2, rfl, rfl, R, _, _, .int r1, rfl, rfl, SqL.of hR', at_of (j := 3 * i + 2) (by omega) (i_at e1), M, _, r1, .str ro, rfl, rfl, SqL.of hM', at_of (j := r1.toNat) (by omega) (s_at hro), ?_⟩
      refine ⟨us.map V.str, hu, by rw [List.length_map]; exact small1000 (by omega), us ++ [ro], by rw [upd_same, map_snocS], by rw [List.length_append, hul]; rfl, fun u h => ?_, same_at sm nHD, by rw [upd_ne nMD]; exact hM', by rw [upd_ne nRD]; exact hR'⟩
      rcases List.mem_append.mp h with h | h
      · exact hur u h
      · rw [List.mem_singleton.mp h]; exact hrr
    rintro H6 ⟨us, hu, hul, hur, s6, hM6, hR6'⟩
    have hg0 : g0.toNat < us.length := by omega
    have hix : ixN (us.map V.str).length g0 = some g0.toNat := by
      unfold ixN; rw [if_pos b0, if_pos (by rw [List.length_map]; omega)]
    refine ⟨.ref D, rfl, .ref R, rfl, R, _, 0, .int g0, rfl, rfl, SqL.of hR6', atI_nat (j := 0) (i_at a0), D, _, g0, g0.toNat, rfl, rfl, hu, hix, ?_⟩
    obtain ⟨rl, hrl⟩ : ∃ rl, rl = us.set g0.toNat (T "root") := ⟨_, rfl⟩
    have hrll : rl.length = m := by rw [hrl, List.length_set, hul]
    have hrlr : ∀ u ∈ rl, u ∈ roles := fun u h => by
      rw [hrl] at h
      exact (List.mem_or_eq_of_mem_set h).elim (hur u) fun e => by rw [e]; decide +kernel
    have hrl0 : rl[g0.toNat]? = some (T "root") := by rw [hrl, List.getElem?_set_self hg0]
    have hD7 : (upd H6 D (.lst ((us.map V.str).set g0.toNat (.str (T "root"))))) D = some (.lst (rl.map V.str)) := by rw [upd_same, hrl, List.map_set]
    have s7 : Same H (upd H6 D (.lst ((us.map V.str).set g0.toNat (.str (T "root"))))) := same_at s6 nHD
    have hR7 : (upd H6 D (.lst ((us.map V.str).set g0.toNat (.str (T "root"))))) R = some (.lst (gs.map V.int)) := by rw [upd_ne nRD]; exact hR6'
    have ea : (T "root") = Str.ofString "root" := rfl
    generalize upd H6 D (.lst ((us.map V.str).set g0.toNat (.str (T "root")))) = H7 at hD7 s7 hR7 ⊢
    refine ⟨Nat.zero_le _, fun L nL => ?_⟩
    have nHL := s7.free nL
    have nDL : D ≠ L := ne_of_none hD7 nL
    have nRL : R ≠ L := ne_of_none hR7 nL
    have naL : a ≠ L := ne_of_none ha nHL
    refine ⟨.int (m : Int), rfl, (m : Int), rfl, by omega, by omega, ?_⟩
    rw [Int.toNat_natCast]
    refine for_range (lo := 0) (n := m) (fun k σ H' => ∃ (y7 y8 y9 y10 y11 : Option V) (rs : List Rw), σ = [some (.int c), some (.ref a), some (.int (m : Int)), some (.ref R), some (.ref M), some (.ref D), some (.ref L), y7, y8, y9, y10, y11] ∧ Same H H' ∧ H' D = some (.lst (rl.map V.str)) ∧ H' R = some (.lst (gs.map V.int)) ∧
      H' L = some (.lst (rv rs)) ∧ rs.length = k ∧ Drw zs rl rs ∧ ∀ r ∈ rs, RowT K H' r ∧ r.ins.length ≤ 12) ⟨_, _, _, _, _, [], rfl, same_new2 s7 nL, by rw [upd_ne nDL]; exact hD7, by rw [upd_ne nRL]; exact hR7, upd_same, rfl, ⟨rfl, rfl, fun r h => nomatch h⟩, fun r h => nomatch h⟩ ?_ ?_
    · rintro k σ H' hk ⟨y7, y8, y9, y10, y11, rs, rfl, sm, hD', hR', hL', hrsl, hdr, hrs⟩
      have e0 : (0 : Int) + (k : Int) = (k : Int) := by omega
      rw [e0]
      obtain ⟨_, k4096, kM⟩ := lsG_at m hm13 k hk
      obtain ⟨r3, e3, p3, q3⟩ := gat k4096
      obtain ⟨r4, e4, p4, q4⟩ := gat kM
      have hkz : zs[k]? = some (zs[k]'(by omega)) := List.getElem?_eq_getElem _
      have hkr : rl[k]? = some (rl[k]'(by omega)) := List.getElem?_eq_getElem _
      generalize zs[k]'(by omega) = kk at hkz
      generalize rl[k]'(by omega) = rk at hkr
      refine ⟨.ref R, rfl, .int (k : Int), rfl, 3, (k : Int), rfl, rfl, .inl ⟨by decide, by decide⟩, _, 3, rfl, rfl, R, _, _, .int r3, rfl, rfl, SqL.of hR', at_of (j := 3 * k + 3) (by omega) (i_at e3), Nat.zero_le _, fun N nN => ⟨_, _, rfl, ?_⟩⟩
      have nHN := sm.free nN
      refine ⟨.int (m : Int), rfl, (m : Int), rfl, by omega, by omega, ?_⟩
      rw [Int.toNat_natCast]
      refine for_range (lo := 0) (n := m) (fun j σ H'' => ∃ (bits : Int) (ins : List Str) (y10 y11 : Option V), σ = [some (.int c), some (.ref a), some (.int (m : Int)), some (.ref R), some (.ref M), some (.ref D), some (.ref L), some (.int (k : Int)), some (.int bits), some (.ref N), y10, y11] ∧ Same H' H'' ∧ H'' N = some (.lst (ins.map V.str)) ∧ ins.length ≤ j ∧
        ∀ c ∈ ins, ∃ (a : Nat) (ro : Str), zs[a]? = some c ∧ rl[a]? = some ro ∧ may rk ro = true) ⟨r3, [], _, _, rfl, same_new nN, upd_same, Nat.le_refl _, fun r h => nomatch h⟩ ?_ ?_
      · rintro j σ H'' hj ⟨bits, ins, y10, y11, rfl, sm2, hN, hil, hin⟩
        have e0 : (0 : Int) + (j : Int) = (j : Int) := by omega
        rw [e0]
        have hR2 := sm2 _ _ hR'
        have hD2 := sm2 _ _ hD'
        have ha2 := sm2 _ _ (sm _ _ ha)
        refine ⟨.int (j : Int), rfl, .ref R, rfl, .int (k : Int), rfl, 3, (k : Int), rfl, rfl, .inl ⟨by decide, by decide⟩, _, 4, rfl, rfl, R, _, _, .int r4, rfl, rfl, SqL.of hR2, at_of (j := 3 * k + 4) (by omega) (i_at e4), (j : Int), r4, rfl, rfl, .inl ⟨_, rfl, .int (m : Int), rfl, _, (m : Int), rfl, rfl, (show (m : Int) ≠ 0 by omega), ?_⟩⟩
        have hA0 : 0 ≤ ((j : Int) + r4).fmod (m : Int) := Int.fmod_nonneg_of_pos _ (by omega)
        have hA1 : ((j : Int) + r4).fmod (m : Int) < (m : Int) := Int.fmod_lt_of_pos _ (by omega)
        obtain ⟨z, hz⟩ : ∃ z, zs[(((j : Int) + r4).fmod (m : Int)).toNat]? = some z := ⟨_, List.getElem?_eq_getElem (by omega)⟩
        obtain ⟨ro, hro⟩ : ∃ ro, rl[(((j : Int) + r4).fmod (m : Int)).toNat]? = some ro := ⟨_, List.getElem?_eq_getElem (by omega)⟩
        refine ⟨.int bits, rfl, .inl ⟨bits, rfl, bits, 2, rfl, rfl, (show (2 : Int) ≠ 0 by decide), rfl, _, rfl, ite2 (fun _ => ?_) (fun _ => ?_)⟩⟩
        · refine ⟨.ref D, rfl, .int (k : Int), rfl, D, _, (k : Int), .str rk, rfl, rfl, SqL.of hD2, atI_nat (s_at hkr), .ref D, rfl, .int (((j : Int) + r4).fmod (m : Int)), rfl, D, _, (((j : Int) + r4).fmod (m : Int)), .str ro, rfl, rfl, SqL.of hD2, at_of (j := (((j : Int) + r4).fmod (m : Int)).toNat) (by omega) (s_at hro), rk, ro, rfl, fun H3 s3 => ⟨may rk ro, rfl, ite2 (fun hmay => ?_) (fun _ => ?_)⟩⟩
          · have hN3 := s3 _ _ hN
            refine ⟨.ref N, rfl, .inl ⟨rfl, _, SqL.of hN3⟩, .ref a, rfl, .int (((j : Int) + r4).fmod (m : Int)), rfl, a, _, (((j : Int) + r4).fmod (m : Int)), .str z, rfl, rfl, SqL.of (s3 _ _ ha2), at_of (j := (((j : Int) + r4).fmod (m : Int)).toNat) (by omega) (s_at hz), N, _, _, rfl, rfl, hN3, by rw [List.length_map]; exact small1000 (by omega), ?_⟩
            refine ⟨.int bits, rfl, bits, 2, rfl, rfl, ⟨by decide, by decide⟩, _, ins ++ [z], _, _, rfl, same_at (sm2.trans s3) nN, by rw [upd_same, map_snocS], by rw [List.length_append]; show _ + 1 ≤ _; omega, fun x hx => ?_⟩
            rcases List.mem_append.mp hx with hx | hx
            · exact hin x hx
            · rw [List.mem_singleton.mp hx]; exact ⟨(((j : Int) + r4).fmod (m : Int)).toNat, ro, hz, hro, hmay⟩
          · exact ⟨.int bits, rfl, bits, 2, rfl, rfl, ⟨by decide, by decide⟩, _, ins, _, _, rfl, sm2.trans s3, s3 _ _ hN, by omega, hin⟩
        · exact ⟨.int bits, rfl, bits, 2, rfl, rfl, ⟨by decide, by decide⟩, _, ins, _, _, rfl, sm2, hN, by omega, hin⟩
      · rintro σ H'' ⟨bits, ins, y10, y11, rfl, sm2, hN, hil, hin⟩
        have hR2 := sm2 _ _ hR'
        refine ⟨fun σ H3 => ∃ (ins : List Str), σ = [some (.int c), some (.ref a), some (.int (m : Int)), some (.ref R), some (.ref M), some (.ref D), some (.ref L), some (.int (k : Int)), some (.int bits), some (.ref N), y10, y11] ∧ Same H' H3 ∧ H3 N = some (.lst (ins.map V.str)) ∧ ins.length ≤ m ∧
          ∀ c ∈ ins, ∃ (a : Nat) (ro : Str), zs[a]? = some c ∧ rl[a]? = some ro ∧ may rk ro = true, ⟨.ref R, rfl, R, _, 1, .int g1, rfl, rfl, SqL.of hR2, atI_nat (j := 1) (i_at a1), rfl, _, rfl, ite2 (fun _ => ?_) (fun _ => ?_)⟩, ?_⟩
        · exact ⟨.ref N, rfl, .inl ⟨rfl, _, SqL.of hN⟩, N, _, rfl, rfl, hN, ins.reverse, rfl, same_at sm2 nN, by rw [upd_same, List.map_reverse], by rw [List.length_reverse]; exact hil, fun x hx => hin x (List.mem_reverse.mp hx)⟩
        · exact ⟨ins, rfl, sm2, hN, hil, hin⟩
        clear sm2 hN hil hin hR2
        rintro σ H3 ⟨ins, rfl, sm2, hN, hil, hin⟩
        have hD2 := sm2 _ _ hD'
        have ha2 := sm2 _ _ (sm _ _ ha)
        have hL2 := sm2 _ _ hL'
        refine ⟨.ref L, rfl, .inl ⟨rfl, _, SqL.of hL2⟩, .ref a, rfl, .int (k : Int), rfl, a, _, (k : Int), .str kk, rfl, rfl, SqL.of ha2, atI_nat (s_at hkz), .ref D, rfl, .int (k : Int), rfl, D, _, (k : Int), .str rk, rfl, rfl, SqL.of hD2, atI_nat (s_at hkr), .ref N, rfl, N, _, rfl, .inl ⟨SqL.of hN, fun I nI => ⟨by show 3 ≤ sizeLine; decide, fun t nt => ?_⟩⟩⟩
        have sI := same_new nI (o := .tup (ins.map V.str))
        have hI : (upd H3 I (.tup (ins.map V.str))) I = some (.tup (ins.map V.str)) := upd_same
        generalize upd H3 I (.tup (ins.map V.str)) = H4 at sI hI nt ⊢
        have st := same_new nt (o := .tup [.str kk, .str rk, .ref I])
        have ht : (upd H4 t (.tup [.str kk, .str rk, .ref I])) t = some (.tup [.str kk, .str rk, .ref I]) := upd_same
        generalize upd H4 t (.tup [.str kk, .str rk, .ref I]) = H8 at st ht ⊢
        have s38 := sI.trans st
        have hL8 := s38 _ _ hL2
        have s08 := sm2.trans s38
        refine ⟨L, _, _, rfl, rfl, hL8, by rw [rv_len]; exact small1000 (by omega), ?_⟩
        have kp : Kp H8 (upd H8 L (.lst (rv rs ++ [.ref t]))) := Kp.but hL8 (fun z => z) upd_but
        have row : RowT K H8 ⟨t, kk, rk, I, ins⟩ := ⟨.inl ht, .inl (st _ _ hI), by show ins.length ≤ 100; omega, fun x hx => (by
          obtain ⟨a', ro, h1, _⟩ := hin x hx
          exact hzo x (List.mem_of_getElem? h1)), hrlr rk (List.mem_of_getElem? hkr), hzo kk (List.mem_of_getElem? hkz)⟩
        refine ⟨_, _, _, _, _, rs ++ [⟨t, kk, rk, I, ins⟩], rfl, same_at (sm.trans s08) nHL, by rw [upd_ne nDL]; exact s08 _ _ hD', by rw [upd_ne nRL]; exact s08 _ _ hR', by rw [upd_same]; unfold rv; rw [List.map_append]; rfl, by rw [List.length_append, hrsl]; rfl, ⟨?_, ?_, ?_⟩, ?_⟩
        · unfold ks; rw [List.map_append, List.length_append]
          show _ ++ [kk] = zs.take (rs.length + 1)
          rw [List.take_add_one, hrsl, hkz, ← hrsl, ← hdr.kinds]; rfl
        · rw [List.map_append, List.length_append]
          show _ ++ [rk] = rl.take (rs.length + 1)
          rw [List.take_add_one, hrsl, hkr, ← hrsl, ← hdr.rls]; rfl
        · intro r hr
          rcases List.mem_append.mp hr with hr | hr
          · exact hdr.ins r hr
          · rw [List.mem_singleton.mp hr]; exact hin
        · intro r hr
          rcases List.mem_append.mp hr with hr | hr
          · exact ⟨((hrs r hr).1.kp (Kp.of s08)).kp kp, (hrs r hr).2⟩
          · rw [List.mem_singleton.mp hr]; exact ⟨row.kp kp, by show ins.length ≤ 12; omega⟩
    · rintro σ H' ⟨y7, y8, y9, y10, y11, rs, rfl, sm, hD', hR', hL', hrsl, hdr, hrs⟩
      obtain ⟨z, hz⟩ : ∃ z, zs[g0.toNat]? = some z := ⟨_, List.getElem?_eq_getElem (by omega)⟩
      obtain ⟨hks, hdue⟩ := hdr.due (by omega) (by omega) hnd hz hrl0
      refine ⟨.ref a, rfl, .ref R, rfl, R, _, 0, .int g0, rfl, rfl, SqL.of hR', atI_nat (j := 0) (i_at a0), a, _, g0, .str z, rfl, rfl, SqL.of (sm _ _ ha), at_of (j := g0.toNat) (by omega) (s_at hz), .ref L, rfl, by show 2 ≤ sizeLine; decide, fun t nt => ?_⟩
      have st := same_new nt (o := .tup [.str z, .ref L])
      exact q _ t L z rs (sm.trans st) upd_same ⟨st _ _ hL', fun r hr => (hrs r hr).1.kp (Kp.of st)⟩ hks (fun r hr => (hrs r hr).2) (List.mem_of_getElem? hz) hdue
end
end K05

set_option maxRecDepth 100000
set_option maxHeartbeats 8000000
namespace K05
open PySem PySem.Spec PyProof.Rows L2
theorem huH {k : Nat} {A : Around} (r : L2H.RoomH k A) : A.units + 1 < cLine := by have := r.un; omega
/-- the errors among each other -/
structure Ers (K : PySem.W.Frag) (mg : Str → Option Value) (CT CU CM CL CS : Addr) : Prop where
  gT : mg "Taken" = some (.ref CT)
  gU : mg "Unknown" = some (.ref CU)
  gM : mg "Misfit" = some (.ref CM)
  gL : mg "LaidError" = some (.ref CL)
  gS : mg "Strange" = some (.ref CS)
  xT : ExcC K CT
  nT : PySem.W.findIn K (.ref CT) "kind" = some none
  vT : PySem.W.kitOne K (.ref CT) (.type "ValueError") = some true
  sT : PySem.W.kitOne K (.ref CT) (.ref CS) = some false
  lT : PySem.W.exmOne K (.ref CT) (.ref CL) = some true
  xU : ExcC K CU
  nU : PySem.W.findIn K (.ref CU) "kind" = some none
  vU : PySem.W.kitOne K (.ref CU) (.type "ValueError") = some true
  sU : PySem.W.kitOne K (.ref CU) (.ref CS) = some false
  lU : PySem.W.exmOne K (.ref CU) (.ref CL) = some true
  xM : ExcC K CM
  nM : PySem.W.findIn K (.ref CM) "kind" = some none
  vM : PySem.W.kitOne K (.ref CM) (.type "ValueError") = some true
  sM : PySem.W.kitOne K (.ref CM) (.ref CS) = some false
  lM : PySem.W.exmOne K (.ref CM) (.ref CL) = some true
  kTT : PySem.W.kitOne K (.ref CT) (.ref CT) = some true
  kTU : PySem.W.kitOne K (.ref CT) (.ref CU) = some false
  kTM : PySem.W.kitOne K (.ref CT) (.ref CM) = some false
  kUT : PySem.W.kitOne K (.ref CU) (.ref CT) = some false
  kUU : PySem.W.kitOne K (.ref CU) (.ref CU) = some true
  kUM : PySem.W.kitOne K (.ref CU) (.ref CM) = some false
  kMT : PySem.W.kitOne K (.ref CM) (.ref CT) = some false
  kMU : PySem.W.kitOne K (.ref CM) (.ref CU) = some false
  kMM : PySem.W.kitOne K (.ref CM) (.ref CM) = some true
section
variable {P : Program} {w : World} {K : PySem.W.Frag} {mg : Str → Option Value} {base : Heap}
/-! ### in an except suite: _law_same -/
theorem ok_same0H {f : Addr} {fd : FuncData} (B : Blt mg) (F : Fun K "_law_same" "_law_same" sSame f fd) : L2H.FnH P w K mg base CX0 1 f fd ["_law_one", "_law_two"] (spSame K 0) := by
  refine RH.FnE.hot (RH.okE F scSame (fun p0 vs H Q E h => ?_) (fun cdv A outer s H vs Q E p0 hot hr h => ?_))
  · obtain ⟨x, y, rfl, _⟩ := h; rfl
  · obtain ⟨x, y, rfl, ⟨rfl, hv⟩, q⟩ := h
    refine ⟨_, PSs.nox (pss_cons (ps_if (pt_cmpR op_isN (pv 1) pe_non (nomark _)) (pss_one ps_never) pss_nil)
      (pss_cons (ps_if (pt_val (pe_callB call_isi (by rfl) B.isi (by decide +kernel) (pa_cons (pv 1) (pa_cons (pe_bltn (v := .ty "str") (by rfl) B.str (by decide +kernel) rfl) pa_nil))))
      (pss_one (ps_ret (pe_and (pe_callB call_isi (by rfl) B.isi (by decide +kernel) (pa_cons (pv 0) (pa_cons (pe_bltn (v := .ty "str") (by rfl) B.str (by decide +kernel) rfl) pa_nil))) (pe_one (pe_cmpR op_eq (pv 0) (pv 1) (nomark _))))))
      pss_nil)
      (pss_cons (ps_if (pt_val (pe_callB call_isi (by rfl) B.isi (by decide +kernel) (pa_cons (pv 1) (pa_cons (pe_bltn (v := .ty "int") (by rfl) B.int (by decide +kernel) rfl) pa_nil))))
      (pss_one (ps_ret (pe_and (pe_callB call_isi (by rfl) B.isi (by decide +kernel) (pa_cons (pv 0) (pa_cons (pe_bltn (v := .ty "int") (by rfl) B.int (by decide +kernel) rfl) pa_nil))) (pe_and (pe_not (pe_callB call_isi (by rfl) B.isi (by decide +kernel) (pa_cons (pv 0) (pa_cons (pe_bltn (v := .ty "bool") (by rfl) B.bool (by decide +kernel) rfl) pa_nil)))) (pe_one (pe_cmpR op_eq (pv 0) (pv 1) (nomark _)))))))
      pss_nil)
      (pss_cons ps_never (pss_cons ps_never (pss_cons ps_never (pss_one ps_never))))))), ?_⟩
    rcases hv with ⟨z, rfl⟩ | ⟨i, rfl⟩
    · refine ⟨.str z, rfl, rfl, _, rfl, iteF ?_⟩
      refine ⟨.str z, rfl, .str z, .ty "str", .type "str", .type "str", true, rfl, .ty "str", ty_txt, kit_ty (by decide +kernel), _, rfl, iteT ?_⟩
      refine ⟨.str z, rfl, .str z, .ty "str", .type "str", .type "str", true, rfl, .ty "str", ty_txt, kit_ty (by decide +kernel), _, rfl, iteT ?_⟩
      refine ⟨.str z, rfl, .str z, rfl, rfl, ?_⟩
      rw [decide_eq_true rfl]; exact q
    · refine ⟨.int i, rfl, rfl, _, rfl, iteF ?_⟩
      refine ⟨.int i, rfl, .int i, .ty "str", .type "int", .type "str", false, rfl, .ty "str", .base (.int i), kit_ty (by decide +kernel), _, rfl, iteF ?_⟩
      refine ⟨.int i, rfl, .int i, .ty "int", .type "int", .type "int", true, rfl, .ty "int", .base (.int i), kit_ty (by decide +kernel), _, rfl, iteT ?_⟩
      refine ⟨.int i, rfl, .int i, .ty "int", .type "int", .type "int", true, rfl, .ty "int", .base (.int i), kit_ty (by decide +kernel), _, rfl, iteT ?_⟩
      refine ⟨.int i, rfl, .int i, .ty "bool", .type "int", .type "bool", false, rfl, .ty "bool", .base (.int i), kit_ty (by decide +kernel), _, rfl, _, rfl, iteT ?_⟩
      refine ⟨.int i, rfl, .int i, rfl, rfl, ?_⟩
      rw [decide_eq_true rfl]; exact q
theorem ok_same1H {n : Nat} {f_same : Addr} {fd_same : FuncData} (B : Blt mg) (F_same : Fun K "_law_same" "_law_same" sSame f_same fd_same) (b_same : Binds K fd_same ["_law_one", "_law_two"] []) (g_same : mg "_law_same" = some (.ref f_same))
    (G_same : L2H.FnH P w K mg base CX0 (n + 1) f_same fd_same ["_law_one", "_law_two"] (spSame K n)) : L2H.FnH P w K mg base CX0 (n + 2) f_same fd_same ["_law_one", "_law_two"] (spSame K (n + 1)) := by
  refine RH.FnE.hot (RH.okE F_same scSame (fun p0 vs H Q E h => ?_) (fun cdv A outer s H vs Q E p0 hot hr h => ?_))
  · obtain ⟨x, y, rfl, _⟩ := h; rfl
  · obtain ⟨x, y, rfl, hv, q⟩ := h
    refine ⟨_, PSs.nox (pss_cons (ps_if (pt_cmpR op_isN (pv 1) pe_non (nomark _)) (pss_one ps_never) pss_nil)
      (pss_cons (ps_if (pt_val (pe_callB call_isi (by rfl) B.isi (by decide +kernel) (pa_cons (pv 1) (pa_cons (pe_bltn (v := .ty "str") (by rfl) B.str (by decide +kernel) rfl) pa_nil))))
      (pss_one (ps_ret (pe_and (pe_callB call_isi (by rfl) B.isi (by decide +kernel) (pa_cons (pv 0) (pa_cons (pe_bltn (v := .ty "str") (by rfl) B.str (by decide +kernel) rfl) pa_nil))) (pe_one (pe_cmpR op_eq (pv 0) (pv 1) (nomark _))))))
      pss_nil)
      (pss_cons (ps_if (pt_val (pe_callB call_isi (by rfl) B.isi (by decide +kernel) (pa_cons (pv 1) (pa_cons (pe_bltn (v := .ty "int") (by rfl) B.int (by decide +kernel) rfl) pa_nil))))
      (pss_one (ps_ret (pe_and (pe_callB call_isi (by rfl) B.isi (by decide +kernel) (pa_cons (pv 0) (pa_cons (pe_bltn (v := .ty "int") (by rfl) B.int (by decide +kernel) rfl) pa_nil))) (pe_and (pe_not (pe_callB call_isi (by rfl) B.isi (by decide +kernel) (pa_cons (pv 0) (pa_cons (pe_bltn (v := .ty "bool") (by rfl) B.bool (by decide +kernel) rfl) pa_nil)))) (pe_one (pe_cmpR op_eq (pv 0) (pv 1) (nomark _)))))))
      pss_nil)
      (pss_cons (ps_if (PW.pt (pw_or (pt_cmpR op_ne (pe_callB call_isi (by rfl) B.isi (by decide +kernel) (pa_cons (pv 1) (pa_cons (pe_bltn (v := .ty "tuple") (by rfl) B.tuple (by decide +kernel) rfl) pa_nil))) (pe_callB call_isi (by rfl) B.isi (by decide +kernel) (pa_cons (pv 0) (pa_cons (pe_bltn (v := .ty "tuple") (by rfl) B.tuple (by decide +kernel) rfl) pa_nil))) (nomark _)) (pw_or1 (pt_cmpR op_ne (pe_callB call_isi (by rfl) B.isi (by decide +kernel) (pa_cons (pv 1) (pa_cons (pe_bltn (v := .ty "list") (by rfl) B.list (by decide +kernel) rfl) pa_nil))) (pe_callB call_isi (by rfl) B.isi (by decide +kernel) (pa_cons (pv 0) (pa_cons (pe_bltn (v := .ty "list") (by rfl) B.list (by decide +kernel) rfl) pa_nil))) (nomark _))))) (pss_one ps_never) pss_nil)
      (pss_cons (ps_if (pt_cmpR op_ne (pe_callB call_len (by rfl) B.len PySem.boot_len (pa_cons (pv 0) pa_nil)) (pe_callB call_len (by rfl) B.len PySem.boot_len (pa_cons (pv 1) pa_nil)) (nomark _)) (pss_one (ps_ret pe_bl)) pss_nil)
      (pss_cons (L2H.ps_forH (PassesOwn.never) ⟨p0, hot, List.mem_cons_self⟩ (L2H.pi_range1H (by rfl) B.range (pa_cons (pe_callB call_len (by rfl) B.len PySem.boot_len (pa_cons (pv 1) pa_nil)) pa_nil)) (pg_name (i := 2) scSame.nd rfl (.inl rfl))
        (pss_one (ps_if (pt_not (pt_val (L2H.pe_callH (E := fun _ => E0) G_same hr ⟨p0, hot, List.mem_cons_self⟩ (by rfl) g_same F_same.kp b_same (fun _ _ _ _ _ _ _ c => c.elim) (pa_cons (pe_ix (ix_list.or ix_tup) (pv 0) (pv 2) (fun _ _ => rfl)) (pa_cons (pe_ix (ix_list.or ix_tup) (pv 1) (pv 2) (fun _ _ => rfl)) pa_nil)))))
         (pss_one (ps_ret pe_bl))
         pss_nil)))
       (pss_one (ps_ret pe_bl)))))))), ?_⟩
    rcases hv with ⟨rfl, hv⟩ | ⟨a, b, xs, ys, rfl, rfl, ⟨ha, hb⟩ | ⟨ha, hb⟩, hle, hx, hall⟩
    · rcases hv with ⟨z, rfl⟩ | ⟨i, rfl⟩
      · refine ⟨.str z, rfl, rfl, _, rfl, iteF ?_⟩
        refine ⟨.str z, rfl, .str z, .ty "str", .type "str", .type "str", true, rfl, .ty "str", ty_txt, kit_ty (by decide +kernel), _, rfl, iteT ?_⟩
        refine ⟨.str z, rfl, .str z, .ty "str", .type "str", .type "str", true, rfl, .ty "str", ty_txt, kit_ty (by decide +kernel), _, rfl, iteT ?_⟩
        refine ⟨.str z, rfl, .str z, rfl, rfl, ?_⟩
        rw [decide_eq_true rfl]; exact q
      · refine ⟨.int i, rfl, rfl, _, rfl, iteF ?_⟩
        refine ⟨.int i, rfl, .int i, .ty "str", .type "int", .type "str", false, rfl, .ty "str", .base (.int i), kit_ty (by decide +kernel), _, rfl, iteF ?_⟩
        refine ⟨.int i, rfl, .int i, .ty "int", .type "int", .type "int", true, rfl, .ty "int", .base (.int i), kit_ty (by decide +kernel), _, rfl, iteT ?_⟩
        refine ⟨.int i, rfl, .int i, .ty "int", .type "int", .type "int", true, rfl, .ty "int", .base (.int i), kit_ty (by decide +kernel), _, rfl, iteT ?_⟩
        refine ⟨.int i, rfl, .int i, .ty "bool", .type "int", .type "bool", false, rfl, .ty "bool", .base (.int i), kit_ty (by decide +kernel), _, rfl, _, rfl, iteT ?_⟩
        refine ⟨.int i, rfl, .int i, rfl, rfl, ?_⟩
        rw [decide_eq_true rfl]; exact q
    · refine ⟨.ref b, rfl, rfl, _, rfl, iteF ?_⟩
      refine ⟨.ref b, rfl, .ref b, .ty "str", .type "list", .type "str", false, rfl, .ty "str", ty_lst hb, kit_ty (by decide +kernel), _, rfl, iteF ?_⟩
      refine ⟨.ref b, rfl, .ref b, .ty "int", .type "list", .type "int", false, rfl, .ty "int", ty_lst hb, kit_ty (by decide +kernel), _, rfl, iteF ?_⟩
      refine ⟨.ref b, rfl, .ref b, .ty "tuple", .type "list", .type "tuple", false, rfl, .ty "tuple", ty_lst hb, kit_ty (by decide +kernel), .ref a, rfl, .ref a, .ty "tuple", .type "list", .type "tuple", false, rfl, .ty "tuple", ty_lst ha, kit_ty (by decide +kernel), rfl, _, rfl, ?_⟩
      rw [decide_eq_true rfl]; refine iteF ?_
      refine ⟨.ref b, rfl, .ref b, .ty "list", .type "list", .type "list", true, rfl, .ty "list", ty_lst hb, kit_ty (by decide +kernel), .ref a, rfl, .ref a, .ty "list", .type "list", .type "list", true, rfl, .ty "list", ty_lst ha, kit_ty (by decide +kernel), rfl, _, rfl, ?_⟩
      rw [decide_eq_true rfl]; refine iteF ?_
      refine ⟨.ref a, rfl, .ref a, xs.length, rfl, .inl ⟨_, SqL.of ha, rfl⟩, .ref b, rfl, .ref b, ys.length, rfl, .inl ⟨_, SqL.of hb, rfl⟩, rfl, _, rfl, ?_⟩
      rw [hle, decide_eq_true rfl]
      refine iteF ⟨.ref b, rfl, .ref b, ys.length, rfl, .inl ⟨_, SqL.of hb, rfl⟩, (ys.length : Int), rfl, by omega, by omega, ?_⟩
      rw [Int.toNat_natCast]
      refine for_range (lo := 0) (n := ys.length) (fun n σ H' => ∃ y, σ = [some (.ref a), some (.ref b), y] ∧ H' = H) ⟨none, rfl, rfl⟩ ?_ ?_
      · rintro k σ H' hk ⟨y, rfl, rfl⟩
        have e0 : (0 : Int) + (k : Int) = (k : Int) := by omega
        rw [e0]
        have g1 : xs[k]? = some (xs[k]'(by omega)) := by simp
        have g2 : ys[k]? = some (ys[k]'hk) := by simp
        refine ⟨.ref a, rfl, .int (k : Int), rfl, .inl ⟨a, xs, (k : Int), _, rfl, rfl, SqL.of ha, atI_nat g1, .ref b, rfl, .int (k : Int), rfl, .inl ⟨b, ys, (k : Int), _, rfl, rfl, SqL.of hb, atI_nat g2, ?_⟩⟩⟩
        exact ⟨_, _, rfl, hall k _ _ g1 g2, true, rfl, iteF ⟨_, rfl, rfl⟩⟩
      · rintro σ H' ⟨y, rfl, rfl⟩
        exact q
    · refine ⟨.ref b, rfl, rfl, _, rfl, iteF ?_⟩
      refine ⟨.ref b, rfl, .ref b, .ty "str", .type "tuple", .type "str", false, rfl, .ty "str", ty_TA hb, kit_ty (by decide +kernel), _, rfl, iteF ?_⟩
      refine ⟨.ref b, rfl, .ref b, .ty "int", .type "tuple", .type "int", false, rfl, .ty "int", ty_TA hb, kit_ty (by decide +kernel), _, rfl, iteF ?_⟩
      refine ⟨.ref b, rfl, .ref b, .ty "tuple", .type "tuple", .type "tuple", true, rfl, .ty "tuple", ty_TA hb, kit_ty (by decide +kernel), .ref a, rfl, .ref a, .ty "tuple", .type "tuple", .type "tuple", true, rfl, .ty "tuple", ty_TA ha, kit_ty (by decide +kernel), rfl, _, rfl, ?_⟩
      rw [decide_eq_true rfl]; refine iteF ?_
      refine ⟨.ref b, rfl, .ref b, .ty "list", .type "tuple", .type "list", false, rfl, .ty "list", ty_TA hb, kit_ty (by decide +kernel), .ref a, rfl, .ref a, .ty "list", .type "tuple", .type "list", false, rfl, .ty "list", ty_TA ha, kit_ty (by decide +kernel), rfl, _, rfl, ?_⟩
      rw [decide_eq_true rfl]; refine iteF ?_
      refine ⟨.ref a, rfl, .ref a, xs.length, rfl, .inr ⟨_, ha.sq, rfl⟩, .ref b, rfl, .ref b, ys.length, rfl, .inr ⟨_, hb.sq, rfl⟩, rfl, _, rfl, ?_⟩
      rw [hle, decide_eq_true rfl]
      refine iteF ⟨.ref b, rfl, .ref b, ys.length, rfl, .inr ⟨_, hb.sq, rfl⟩, (ys.length : Int), rfl, by omega, by omega, ?_⟩
      rw [Int.toNat_natCast]
      refine for_range (lo := 0) (n := ys.length) (fun n σ H' => ∃ y, σ = [some (.ref a), some (.ref b), y] ∧ H' = H) ⟨none, rfl, rfl⟩ ?_ ?_
      · rintro k σ H' hk ⟨y, rfl, rfl⟩
        have e0 : (0 : Int) + (k : Int) = (k : Int) := by omega
        rw [e0]
        have g1 : xs[k]? = some (xs[k]'(by omega)) := by simp
        have g2 : ys[k]? = some (ys[k]'hk) := by simp
        refine ⟨.ref a, rfl, .int (k : Int), rfl, .inr ⟨a, xs, (k : Int), _, rfl, rfl, ha.sq, atI_nat g1, .ref b, rfl, .int (k : Int), rfl, .inr ⟨b, ys, (k : Int), _, rfl, rfl, hb.sq, atI_nat g2, ?_⟩⟩⟩
        exact ⟨_, _, rfl, hall k _ _ g1 g2, true, rfl, iteF ⟨_, rfl, rfl⟩⟩
      · rintro σ H' ⟨y, rfl, rfl⟩
        exact q
/-! ### _law_error -/
def spErr (CT CU CM : Addr) (p : Addr × Obj) : Sp := fun vs H Q _ => ∃ (d : Du) (dd : Addr), vs = [.ref p.1] ∧ d.bad = true ∧ Zc (.ref (d.cls CT CU CM)) (some dd) p.2 ∧ H dd = some (.xd [("kind", .str d.kind)]) ∧ ∀ H' t, Same H H' → H' t = some (.tup [.str d.tag, .str d.kind]) → Q (.ref t) H'
theorem scError : FnScope ["_law_e"] ["_law_e"] (defScope sError) := ⟨rfl, rfl, rfl, by decide +kernel, rfl, by decide +kernel, by decide +kernel⟩
theorem ok_error {CT CU CM CL CS f : Addr} {fd : FuncData} (B : Blt mg) (R : Ers K mg CT CU CM CL CS) (F : Fun K "_law_error" "_law_error" sError f fd) : RH.FnE P w K mg base CX0 1 f fd ["_law_e"] (spErr CT CU CM) := by
  refine RH.okE F scError (fun p0 vs H Q E h => ?_) (fun cdv A outer s H vs Q E p0 hot hr h => ?_)
  · obtain ⟨d, dd, rfl, _⟩ := h; rfl
  · obtain ⟨d, dd, rfl, hb, hz, hdd, q⟩ := h
    refine ⟨_, (pss_cons (ps_if (PW.pt (pw_or (pt_not (pt_val (pe_callB (RH.call_isP (p := p0) List.mem_cons_self hot) (by rfl) B.isi (by decide +kernel) (pa_cons (pv 0) (pa_cons (pe_bltn (v := .ty "ValueError") (by rfl) B.ve (by decide +kernel) rfl) pa_nil))))) (pw_or1 (pt_val (pe_callB (RH.call_isP (p := p0) List.mem_cons_self hot) (by rfl) B.isi (by decide +kernel) (pa_cons (pv 0) (pa_cons (pe_glob (v := .ref CS) (by rfl) R.gS rfl) pa_nil)))))))
      (pss_one (ps_ret (pe_tup (pa_cons pe_str (pa_cons pe_str pa_nil)))))
      pss_nil)
      (pss_cons (ps_if (PW.pt (pw_and (pt_val (pe_callB (RH.call_isP (p := p0) List.mem_cons_self hot) (by rfl) B.isi (by decide +kernel) (pa_cons (pv 0) (pa_cons (pe_glob (v := .ref CT) (by rfl) R.gT rfl) pa_nil)))) (pw_and (pt_not (pt_val (pe_callB (RH.call_isP (p := p0) List.mem_cons_self hot) (by rfl) B.isi (by decide +kernel) (pa_cons (pv 0) (pa_cons (pe_glob (v := .ref CU) (by rfl) R.gU rfl) pa_nil))))) (pw_and1 (pt_not (pt_val (pe_callB (RH.call_isP (p := p0) List.mem_cons_self hot) (by rfl) B.isi (by decide +kernel) (pa_cons (pv 0) (pa_cons (pe_glob (v := .ref CM) (by rfl) R.gM rfl) pa_nil)))))))))
      (pss_one (ps_ret (pe_tup (pa_cons pe_str (pa_cons (RH.pe_xp (p := p0) List.mem_cons_self hot (pv 0)) pa_nil)))))
      pss_nil)
      (pss_cons (ps_if (PW.pt (pw_and (pt_val (pe_callB (RH.call_isP (p := p0) List.mem_cons_self hot) (by rfl) B.isi (by decide +kernel) (pa_cons (pv 0) (pa_cons (pe_glob (v := .ref CU) (by rfl) R.gU rfl) pa_nil)))) (pw_and (pt_not (pt_val (pe_callB (RH.call_isP (p := p0) List.mem_cons_self hot) (by rfl) B.isi (by decide +kernel) (pa_cons (pv 0) (pa_cons (pe_glob (v := .ref CT) (by rfl) R.gT rfl) pa_nil))))) (pw_and1 (pt_not (pt_val (pe_callB (RH.call_isP (p := p0) List.mem_cons_self hot) (by rfl) B.isi (by decide +kernel) (pa_cons (pv 0) (pa_cons (pe_glob (v := .ref CM) (by rfl) R.gM rfl) pa_nil)))))))))
      (pss_one (ps_ret (pe_tup (pa_cons pe_str (pa_cons (RH.pe_xp (p := p0) List.mem_cons_self hot (pv 0)) pa_nil)))))
      pss_nil)
      (pss_cons (ps_if (PW.pt (pw_and (pt_val (pe_callB (RH.call_isP (p := p0) List.mem_cons_self hot) (by rfl) B.isi (by decide +kernel) (pa_cons (pv 0) (pa_cons (pe_glob (v := .ref CM) (by rfl) R.gM rfl) pa_nil)))) (pw_and (pt_not (pt_val (pe_callB (RH.call_isP (p := p0) List.mem_cons_self hot) (by rfl) B.isi (by decide +kernel) (pa_cons (pv 0) (pa_cons (pe_glob (v := .ref CT) (by rfl) R.gT rfl) pa_nil))))) (pw_and1 (pt_not (pt_val (pe_callB (RH.call_isP (p := p0) List.mem_cons_self hot) (by rfl) B.isi (by decide +kernel) (pa_cons (pv 0) (pa_cons (pe_glob (v := .ref CU) (by rfl) R.gU rfl) pa_nil)))))))))
      (pss_one (ps_ret (pe_tup (pa_cons pe_str (pa_cons (RH.pe_xp (p := p0) List.mem_cons_self hot (pv 0)) pa_nil)))))
      pss_nil)
      (pss_one (ps_ret (pe_tup (pa_cons pe_str (pa_cons pe_str pa_nil))))))))), ?_⟩
    cases d with
    | good => cases hb
    | taken c =>
      have hz : Zc (.ref CT) (some dd) p0.2 := hz
      have hdd : H dd = some (.xd [("kind", .str c)]) := hdd
      refine ⟨.ref p0.1, rfl, CT, .ty "ValueError", .type "ValueError", true, dd, _, R.xT, hz, rfl, (fun u hu => hu), R.vT, hdd, _, rfl, iteF ?_⟩
      refine ⟨.ref p0.1, rfl, CT, .ref CS, .ref CS, false, dd, _, R.xT, hz, rfl, (fun u hu => hu), R.sT, hdd, _, rfl, iteF ?_⟩
      refine ⟨.ref p0.1, rfl, CT, .ref CT, .ref CT, true, dd, _, R.xT, hz, rfl, (fun u hu => hu), R.kTT, hdd, _, rfl, iteT ?_⟩
      refine ⟨.ref p0.1, rfl, CT, .ref CU, .ref CU, false, dd, _, R.xT, hz, rfl, (fun u hu => hu), R.kTU, hdd, _, rfl, iteT ?_⟩
      refine ⟨.ref p0.1, rfl, CT, .ref CM, .ref CM, false, dd, _, R.xT, hz, rfl, (fun u hu => hu), R.kTM, hdd, _, rfl, iteT ?_⟩
      exact ⟨.ref p0.1, rfl, rfl, CT, dd, _, .str c, ⟨R.xT.hg, R.xT.hk, R.xT.hs, R.xT.hd⟩, R.nT, hz, hdd, rfl, by show 2 ≤ sizeLine; decide, fun t nt => q _ t (same_new nt) upd_same⟩
    | unknown c =>
      have hz : Zc (.ref CU) (some dd) p0.2 := hz
      have hdd : H dd = some (.xd [("kind", .str c)]) := hdd
      refine ⟨.ref p0.1, rfl, CU, .ty "ValueError", .type "ValueError", true, dd, _, R.xU, hz, rfl, (fun u hu => hu), R.vU, hdd, _, rfl, iteF ?_⟩
      refine ⟨.ref p0.1, rfl, CU, .ref CS, .ref CS, false, dd, _, R.xU, hz, rfl, (fun u hu => hu), R.sU, hdd, _, rfl, iteF ?_⟩
      refine ⟨.ref p0.1, rfl, CU, .ref CT, .ref CT, false, dd, _, R.xU, hz, rfl, (fun u hu => hu), R.kUT, hdd, _, rfl, iteF ?_⟩
      refine ⟨.ref p0.1, rfl, CU, .ref CU, .ref CU, true, dd, _, R.xU, hz, rfl, (fun u hu => hu), R.kUU, hdd, _, rfl, iteT ?_⟩
      refine ⟨.ref p0.1, rfl, CU, .ref CT, .ref CT, false, dd, _, R.xU, hz, rfl, (fun u hu => hu), R.kUT, hdd, _, rfl, iteT ?_⟩
      refine ⟨.ref p0.1, rfl, CU, .ref CM, .ref CM, false, dd, _, R.xU, hz, rfl, (fun u hu => hu), R.kUM, hdd, _, rfl, iteT ?_⟩
      exact ⟨.ref p0.1, rfl, rfl, CU, dd, _, .str c, ⟨R.xU.hg, R.xU.hk, R.xU.hs, R.xU.hd⟩, R.nU, hz, hdd, rfl, by show 2 ≤ sizeLine; decide, fun t nt => q _ t (same_new nt) upd_same⟩
    | misfit c =>
      have hz : Zc (.ref CM) (some dd) p0.2 := hz
      have hdd : H dd = some (.xd [("kind", .str c)]) := hdd
      refine ⟨.ref p0.1, rfl, CM, .ty "ValueError", .type "ValueError", true, dd, _, R.xM, hz, rfl, (fun u hu => hu), R.vM, hdd, _, rfl, iteF ?_⟩
      refine ⟨.ref p0.1, rfl, CM, .ref CS, .ref CS, false, dd, _, R.xM, hz, rfl, (fun u hu => hu), R.sM, hdd, _, rfl, iteF ?_⟩
      refine ⟨.ref p0.1, rfl, CM, .ref CT, .ref CT, false, dd, _, R.xM, hz, rfl, (fun u hu => hu), R.kMT, hdd, _, rfl, iteF ?_⟩
      refine ⟨.ref p0.1, rfl, CM, .ref CU, .ref CU, false, dd, _, R.xM, hz, rfl, (fun u hu => hu), R.kMU, hdd, _, rfl, iteF ?_⟩
      refine ⟨.ref p0.1, rfl, CM, .ref CM, .ref CM, true, dd, _, R.xM, hz, rfl, (fun u hu => hu), R.kMM, hdd, _, rfl, iteT ?_⟩
      refine ⟨.ref p0.1, rfl, CM, .ref CT, .ref CT, false, dd, _, R.xM, hz, rfl, (fun u hu => hu), R.kMT, hdd, _, rfl, iteT ?_⟩
      refine ⟨.ref p0.1, rfl, CM, .ref CU, .ref CU, false, dd, _, R.xM, hz, rfl, (fun u hu => hu), R.kMU, hdd, _, rfl, iteT ?_⟩
      exact ⟨.ref p0.1, rfl, rfl, CM, dd, _, .str c, ⟨R.xM.hg, R.xM.hk, R.xM.hs, R.xM.hd⟩, R.nM, hz, hdd, rfl, by show 2 ≤ sizeLine; decide, fun t nt => q _ t (same_new nt) upd_same⟩
/-! ### _law_due -/
def spDue (K : PySem.W.Frag) : Sp := fun vs H Q _ => ∃ (a : Addr) (top : Str) (rs : List Rw), vs = [.str top, .ref a] ∧ RowsAt K H a rs ∧ rs.length ≤ 100 ∧ ∀ H' t, Same H H' → H' t = some (.tup [.str (dueOf top rs).tag, .str (dueOf top rs).kind]) → Q (.ref t) H'
abbrev nDu : List Str := ["_law_top", "_law_rows", "_law_roles", "_law_row_here", "_law_other"]
theorem scDue : FnScope nDu ["_law_top", "_law_rows"] (defScope sDue) := ⟨rfl, rfl, rfl, by decide +kernel, rfl, by decide +kernel, by decide +kernel⟩
theorem ok_due {f f_may : Addr} {fd fd_may : FuncData} (F : Fun K "_law_due" "_law_due" sDue f fd)
    (F_may : Fun K "_law_may" "_law_may" sMay f_may fd_may) (b_may : Binds K fd_may ["_law_outer", "_law_inner"] []) (g_may : mg "_law_may" = some (.ref f_may)) : FnOk P w K mg base CX0 2 f fd ["_law_top", "_law_rows"] (spDue K) := by
  have G_may : FnOk P w K mg base CX0 1 f_may fd_may ["_law_outer", "_law_inner"] spMay := ok_may F_may
  refine F.ok scDue (fun vs H Q E h => ?_) (fun cdv A0 outer s H vs Q E hr h => ?_)
  · obtain ⟨a, top, rs, rfl, _⟩ := h; rfl
  · obtain ⟨a, top, rs, rfl, ⟨ha, hrs⟩, hl, q⟩ := h
    refine ⟨_, (pss_cons (ps_set (i := 2) scDue.nd rfl (.inl rfl) pe_dnewK)
      (pss_cons (ps_for (PassesOwn.never) rfl (pi_list (pv 1)) (pg_name (i := 3) scDue.nd rfl (.inl rfl))
      (pss_cons (ps_if (pt_cmp (pc_din (hu_of hr) (pe_ix ix_tup (pv 3) pe_int (fun _ _ => rfl)) (pv 2)))
       (pss_one (ps_ret (pe_tup (pa_cons pe_str (pa_cons (pe_ix ix_tup (pv 3) pe_int (fun _ _ => rfl)) pa_nil)))))
       pss_nil)
       (pss_one (ps_dput (hu_of hr) (pv 2) (pe_ix ix_tup (pv 3) pe_int (fun _ _ => rfl)) (pe_ix ix_tup (pv 3) pe_int (fun _ _ => rfl)) rfl))))
      (pss_cons (ps_if (pt_cmp (pc_dnotin (hu_of hr) (pv 0) (pv 2)))
      (pss_one (ps_ret (pe_tup (pa_cons pe_str (pa_cons (pv 0) pa_nil)))))
      pss_nil)
      (pss_cons (ps_if (pt_cmpR op_ne (pe_dget (hu_of hr) (pv 2) (pv 0) (fun _ _ => rfl)) pe_str (nomark _))
      (pss_one (ps_ret (pe_tup (pa_cons pe_str (pa_cons (pv 0) pa_nil)))))
      pss_nil)
      (pss_cons (ps_for (PassesOwn.never) rfl (pi_list (pv 1)) (pg_name (i := 3) scDue.nd rfl (.inl rfl))
      (pss_one (ps_for (PassesOwn.never) rfl (pi_tup (pe_ix ix_tup (pv 3) pe_int (fun _ _ => rfl))) (pg_name (i := 4) scDue.nd rfl (.inl rfl))
       (pss_cons (ps_if (pt_cmp (pc_dnotin (hu_of hr) (pv 4) (pv 2)))
        (pss_one (ps_ret (pe_tup (pa_cons pe_str (pa_cons (pv 4) pa_nil)))))
        pss_nil)
        (pss_one (ps_if (pt_not (pt_val (pe_call G_may hr (by rfl) g_may F_may.kp b_may .nil pass0 (pa_cons (pe_ix ix_tup (pv 3) pe_int (fun _ _ => rfl)) (pa_cons (pe_dget (hu_of hr) (pv 2) (pv 4) (fun _ _ => rfl)) pa_nil)))))
        (pss_one (ps_ret (pe_tup (pa_cons pe_str (pa_cons (pv 4) pa_nil)))))
        pss_nil))))))
      (pss_one (ps_ret (pe_tup (pa_cons pe_str (pa_cons pe_str pa_nil)))))))))), ?_⟩
    refine fun d nd => ?_
    have s1 : Same H (upd H d (.dK [])) := same_new nd
    have hd1 : (upd H d (.dK [])) d = some (.dK (kvR [])) := upd_same
    generalize upd H d (.dK []) = H1 at s1 hd1 ⊢
    have ret : ∀ (D : Du) (H' : Hp), dueOf top rs = D → Same H H' → ∀ t, H' t = none → Q (.ref t) (upd H' t (.tup [.str D.tag, .str D.kind])) := fun D H' e sm t nt => q _ t (by exact sm.trans (same_new nt)) (by rw [e]; exact upd_same)
    refine ⟨.ref a, rfl, a, rfl, ⟨_, SqL.of (s1 _ _ ha)⟩, for_list (K := K) (a := a) (xs := rv rs) (fun i σ H' => ∃ (y3 y4 : Option V), σ = [some (.str top), some (.ref a), some (.ref d), y3, y4] ∧ Same H H' ∧ H' d = some (.dK (kvR (rs.take i))) ∧
      takenF [] (ks rs) = takenF ((ks rs).take i) ((ks rs).drop i)) ⟨none, none, rfl, s1, hd1, rfl⟩ (fun i σ H' _ ⟨_, _, _, sm, _⟩ => SqL.of (sm _ _ ha)) ?_ ?_⟩
    · rintro i x σ H' hi ⟨y3, y4, rfl, sm, hd, hbad⟩
      unfold rv at hi
      rw [List.getElem?_map] at hi
      cases en : rs[i]? with
      | none => rw [en] at hi; cases hi
      | some r =>
      rw [en] at hi; cases hi
      have hilt := (List.getElem?_eq_some_iff.mp en).1
      obtain ⟨hrT, hrI⟩ := (hrs r (List.mem_of_getElem? en)).kp (.of sm)
      have hcat : (ks rs)[i]? = some r.k := by unfold ks; rw [List.getElem?_map, en]; rfl
      rw [takenF_at hcat] at hbad
      have hmem : (ks rs).take i = ks (rs.take i) := by unfold ks; rw [List.map_take]
      refine ⟨.ref r.t, rfl, r.t, _, 0, .str r.k, rfl, rfl, hrT.sq, rfl, .ref d, rfl, d, _, rfl, DGet.k (k := Sum.inr r.k) hd, _, rfl, ?_⟩
      rw [valR, Option.isSome_map]
      refine ite2 (fun h2 => ?_) (fun h2 => ?_)
      · have hin : r.k ∈ (ks rs).take i := by
          rw [hmem]
          refine Classical.byContradiction fun z => ?_
          rw [roleOf_none.mpr z] at h2; cases h2
        rw [if_pos hin] at hbad
        have hD : dueOf top rs = .taken r.k := by unfold dueOf; rw [hbad]
        exact ⟨.ref r.t, rfl, r.t, _, 0, .str r.k, rfl, rfl, hrT.sq, rfl, by show 2 ≤ sizeLine; decide, ret _ H' hD sm⟩
      have hno : ¬ r.k ∈ (ks rs).take i := fun z => by
        rw [hmem] at z
        cases e : roleOf (rs.take i) r.k with
        | none => exact roleOf_none.mp e z
        | some y => rw [e] at h2; exact h2 rfl
      rw [if_neg hno] at hbad
      have hvn : valV (kvR (rs.take i)) (Sum.inr r.k) = none := by rw [valR, roleOf_none.mpr (by rw [← hmem]; exact hno)]; rfl
      refine ⟨.ref r.t, rfl, r.t, _, 1, .str r.r, rfl, rfl, hrT.sq, rfl, .ref d, rfl, .ref r.t, rfl, r.t, _, 0, .str r.k, rfl, rfl, hrT.sq, rfl, d, _, rfl, DPut.k (k := Sum.inr r.k) hd (by rw [kvR_len, List.length_take]; exact small1000 (by omega)), _, _, rfl, same_at sm nd, ?_, hbad⟩
      rw [putK_new _ hvn, upd_same, List.take_add_one, en]; unfold kvR; rw [List.map_append]; rfl
    · rintro σ H' ⟨y3, y4, rfl, sm, hd, hbad⟩
      rw [rv_len, List.take_length] at hd
      have hbn : takenF [] (ks rs) = none := by
        rw [rv_len] at hbad
        rw [hbad, List.drop_of_length_le (by simp [ks])]; rfl
      have hdue : dueOf top rs = match roleOf rs top with
        | none => .unknown top
        | some r => if r = T "root" then rowsF rs rs else .misfit top := by
        unfold dueOf; rw [hbn] <;> (cases roleOf rs top <;> rfl)
      refine ⟨.str top, rfl, .ref d, rfl, d, _, rfl, DGet.k (k := Sum.inr top) hd, _, rfl, ?_⟩
      rw [valR]
      cases hro : roleOf rs top with
      | none =>
        rw [hro] at hdue
        exact iteT ⟨.str top, rfl, by show 2 ≤ sizeLine; decide, ret _ H' hdue sm⟩
      | some ro =>
        rw [hro] at hdue
        have hdg : DGet H' d (V.str top) (some (V.str ro)) := by
          have := DGet.k (k := Sum.inr top) hd
          rw [valR, hro] at this; exact this
        refine iteF ⟨.ref d, rfl, .str top, rfl, d, .str ro, rfl, hdg, rfl, _, rfl, ?_⟩
        refine ite2 (fun hb => ?_) (fun hb => ?_)
        · have hne : ¬ ro = T "root" := fun e => by rw [e] at hb; revert hb; decide +kernel
          have hD : dueOf top rs = .misfit top := by rw [hdue]; exact if_neg hne
          exact ⟨.str top, rfl, by show 2 ≤ sizeLine; decide, ret _ H' hD sm⟩
        have he : ro = T "root" := by
          by_cases e : ro = T "root"
          · exact e
          · exact absurd (show (!decide (V.str ro = V.str (T "root"))) = true by rw [decide_eq_false (fun z => e (V.str.inj z))]; rfl) hb
        have hD : dueOf top rs = rowsF rs rs := by rw [hdue]; exact if_pos he
        clear hbad hbn hdue hro hdg hb he
        refine ⟨.ref a, rfl, a, rfl, ⟨_, SqL.of (sm _ _ ha)⟩, for_list (K := K) (a := a) (xs := rv rs) (fun i σ H' => ∃ (y3 y4 : Option V), σ = [some (.str top), some (.ref a), some (.ref d), y3, y4] ∧ Same H H' ∧ H' d = some (.dK (kvR rs)) ∧
          rowsF rs rs = rowsF rs (rs.drop i)) ⟨_, _, rfl, sm, hd, rfl⟩ (fun i σ H' _ ⟨_, _, _, sm, _⟩ => SqL.of (sm _ _ ha)) ?_ ?_⟩
        · clear sm hd
          rintro i x σ H' hi ⟨y3, y4, rfl, sm, hd, hF⟩
          unfold rv at hi
          rw [List.getElem?_map] at hi
          cases en : rs[i]? with
          | none => rw [en] at hi; cases hi
          | some r =>
          rw [en] at hi; cases hi
          rw [rowsF_at en] at hF
          obtain ⟨hrT0, hrI0⟩ := hrs r (List.mem_of_getElem? en)
          have hrT := hrT0.kp (Kp.of sm)
          have hrI := hrI0.kp (Kp.of sm)
          refine ⟨.ref r.t, rfl, r.t, _, 2, .ref r.i, rfl, rfl, hrT.sq, rfl, r.i, rfl, ⟨_, hrI.1.sq⟩, for_tup (K := K) (a := r.i) (xs := r.ins.map V.str) (fun j σ H' => ∃ y4 : Option V, σ = [some (.str top), some (.ref a), some (.ref d), some (.ref r.t), y4] ∧ Same H H' ∧ H' d = some (.dK (kvR rs)) ∧
            innF rs r.r r.ins = innF rs r.r (r.ins.drop j)) ⟨_, rfl, sm, hd, rfl⟩ (fun j σ H' _ ⟨_, _, sm, _⟩ => (hrI0.kp (Kp.of sm)).1.sq) ?_ ?_⟩
          · clear sm hd hrT hrI
            rintro j x σ H' hj ⟨y4, rfl, sm, hd, hI⟩
            rw [List.getElem?_map] at hj
            cases ec : r.ins[j]? with
            | none => rw [ec] at hj; cases hj
            | some c =>
            rw [ec] at hj; cases hj
            rw [innF_at ec] at hI
            have hrT := hrT0.kp (Kp.of sm)
            have fin : ∀ D : Du, innF rs r.r r.ins = D → D.bad = true → dueOf top rs = D := fun D h1 h2 => by
              rw [hD, hF, h1]
              cases D <;> first | rfl | cases h2
            refine ⟨.str c, rfl, .ref d, rfl, d, _, rfl, DGet.k (k := Sum.inr c) hd, _, rfl, ?_⟩
            rw [valR]
            cases hro : roleOf rs c with
            | none =>
              rw [hro] at hI
              exact iteT ⟨.str c, rfl, by show 2 ≤ sizeLine; decide, ret _ H' (fin (.unknown c) hI rfl) sm⟩
            | some ro =>
              rw [hro] at hI
              have hdg : DGet H' d (V.str c) (some (V.str ro)) := by
                have := DGet.k (k := Sum.inr c) hd
                rw [valR, hro] at this; exact this
              refine iteF ⟨.ref r.t, rfl, r.t, _, 1, .str r.r, rfl, rfl, hrT.sq, rfl, .ref d, rfl, .str c, rfl, d, .str ro, rfl, hdg, r.r, ro, rfl, fun H3 s3 => ⟨_, rfl, ?_⟩⟩
              refine ite2 (fun hb => ?_) (fun hb => ?_)
              · have hm : ¬ may r.r ro = true := fun z => by rw [z] at hb; cases hb
                exact ⟨.str c, rfl, by show 2 ≤ sizeLine; decide, ret _ H3 (fin (.misfit c) (by rw [hI]; exact if_neg hm) rfl) (sm.trans s3)⟩
              · have hm : may r.r ro = true := by
                  cases hz : may r.r ro with
                  | true => rfl
                  | false => rw [hz] at hb; exact absurd rfl hb
                exact ⟨_, rfl, sm.trans s3, s3 _ _ hd, by rw [hI]; exact if_pos hm⟩
          · rintro σ H' ⟨y4, rfl, sm, hd, hI⟩
            rw [List.length_map, List.drop_of_length_le (Nat.le_refl _)] at hI
            have hI' : innF rs r.r r.ins = .good := hI
            rw [hI'] at hF
            exact ⟨_, _, rfl, sm, hd, hF⟩
        · rintro σ H' ⟨y3, y4, rfl, sm, hd, hF⟩
          rw [rv_len, List.drop_of_length_le (Nat.le_refl _)] at hF
          have hG : dueOf top rs = .good := by rw [hD, hF]; rfl
          exact ⟨by show 2 ≤ sizeLine; decide, ret _ H' hG sm⟩
theorem ok_dueH {f f_may : Addr} {fd fd_may : FuncData} (F : Fun K "_law_due" "_law_due" sDue f fd)
    (F_may : Fun K "_law_may" "_law_may" sMay f_may fd_may) (b_may : Binds K fd_may ["_law_outer", "_law_inner"] []) (g_may : mg "_law_may" = some (.ref f_may)) : L2H.FnH P w K mg base CX0 2 f fd ["_law_top", "_law_rows"] (spDue K) := by
  have G_may : L2H.FnH P w K mg base CX0 1 f_may fd_may ["_law_outer", "_law_inner"] spMay := ok_mayH F_may
  refine RH.FnE.hot (RH.okE F scDue (fun p0 vs H Q E h => ?_) (fun cdv A outer s H vs Q E p0 hot hr h => ?_))
  · obtain ⟨a, top, rs, rfl, _⟩ := h; rfl
  · obtain ⟨a, top, rs, rfl, ⟨ha, hrs⟩, hl, q⟩ := h
    refine ⟨_, PSs.nox (pss_cons (ps_set (i := 2) scDue.nd rfl (.inl rfl) pe_dnewK)
      (pss_cons (L2H.ps_forH (PassesOwn.never) ⟨p0, hot, List.mem_cons_self⟩ (RH.pi_listH (pv 1)) (pg_name (i := 3) scDue.nd rfl (.inl rfl))
      (pss_cons (ps_if (pt_cmp (pc_din (huH hr) (pe_ix ix_tup (pv 3) pe_int (fun _ _ => rfl)) (pv 2)))
       (pss_one (ps_ret (pe_tup (pa_cons pe_str (pa_cons (pe_ix ix_tup (pv 3) pe_int (fun _ _ => rfl)) pa_nil)))))
       pss_nil)
       (pss_one (ps_dput (huH hr) (pv 2) (pe_ix ix_tup (pv 3) pe_int (fun _ _ => rfl)) (pe_ix ix_tup (pv 3) pe_int (fun _ _ => rfl)) rfl))))
      (pss_cons (ps_if (pt_cmp (pc_dnotin (huH hr) (pv 0) (pv 2)))
      (pss_one (ps_ret (pe_tup (pa_cons pe_str (pa_cons (pv 0) pa_nil)))))
      pss_nil)
      (pss_cons (ps_if (pt_cmpR op_ne (pe_dget (huH hr) (pv 2) (pv 0) (fun _ _ => rfl)) pe_str (nomark _))
      (pss_one (ps_ret (pe_tup (pa_cons pe_str (pa_cons (pv 0) pa_nil)))))
      pss_nil)
      (pss_cons (L2H.ps_forH (PassesOwn.never) ⟨p0, hot, List.mem_cons_self⟩ (RH.pi_listH (pv 1)) (pg_name (i := 3) scDue.nd rfl (.inl rfl))
      (pss_one (L2H.ps_forH (PassesOwn.never) ⟨p0, hot, List.mem_cons_self⟩ (RH.pi_tupH (pe_ix ix_tup (pv 3) pe_int (fun _ _ => rfl))) (pg_name (i := 4) scDue.nd rfl (.inl rfl))
       (pss_cons (ps_if (pt_cmp (pc_dnotin (huH hr) (pv 4) (pv 2)))
        (pss_one (ps_ret (pe_tup (pa_cons pe_str (pa_cons (pv 4) pa_nil)))))
        pss_nil)
        (pss_one (ps_if (pt_not (pt_val (L2H.pe_callH (E := fun _ => E0) G_may hr ⟨p0, hot, List.mem_cons_self⟩ (by rfl) g_may F_may.kp b_may (fun _ _ _ _ _ _ _ c => c.elim) (pa_cons (pe_ix ix_tup (pv 3) pe_int (fun _ _ => rfl)) (pa_cons (pe_dget (huH hr) (pv 2) (pv 4) (fun _ _ => rfl)) pa_nil)))))
        (pss_one (ps_ret (pe_tup (pa_cons pe_str (pa_cons (pv 4) pa_nil)))))
        pss_nil))))))
      (pss_one (ps_ret (pe_tup (pa_cons pe_str (pa_cons pe_str pa_nil)))))))))), ?_⟩
    refine fun d nd => ?_
    have s1 : Same H (upd H d (.dK [])) := same_new nd
    have hd1 : (upd H d (.dK [])) d = some (.dK (kvR [])) := upd_same
    generalize upd H d (.dK []) = H1 at s1 hd1 ⊢
    have ret : ∀ (D : Du) (H' : Hp), dueOf top rs = D → Same H H' → ∀ t, H' t = none → Q (.ref t) (upd H' t (.tup [.str D.tag, .str D.kind])) := fun D H' e sm t nt => q _ t (by exact sm.trans (same_new nt)) (by rw [e]; exact upd_same)
    refine ⟨.ref a, rfl, a, rfl, ⟨_, SqL.of (s1 _ _ ha)⟩, for_list (K := K) (a := a) (xs := rv rs) (fun i σ H' => ∃ (y3 y4 : Option V), σ = [some (.str top), some (.ref a), some (.ref d), y3, y4] ∧ Same H H' ∧ H' d = some (.dK (kvR (rs.take i))) ∧
      takenF [] (ks rs) = takenF ((ks rs).take i) ((ks rs).drop i)) ⟨none, none, rfl, s1, hd1, rfl⟩ (fun i σ H' _ ⟨_, _, _, sm, _⟩ => SqL.of (sm _ _ ha)) ?_ ?_⟩
    · rintro i x σ H' hi ⟨y3, y4, rfl, sm, hd, hbad⟩
      unfold rv at hi
      rw [List.getElem?_map] at hi
      cases en : rs[i]? with
      | none => rw [en] at hi; cases hi
      | some r =>
      rw [en] at hi; cases hi
      have hilt := (List.getElem?_eq_some_iff.mp en).1
      obtain ⟨hrT, hrI⟩ := (hrs r (List.mem_of_getElem? en)).kp (.of sm)
      have hcat : (ks rs)[i]? = some r.k := by unfold ks; rw [List.getElem?_map, en]; rfl
      rw [takenF_at hcat] at hbad
      have hmem : (ks rs).take i = ks (rs.take i) := by unfold ks; rw [List.map_take]
      refine ⟨.ref r.t, rfl, r.t, _, 0, .str r.k, rfl, rfl, hrT.sq, rfl, .ref d, rfl, d, _, rfl, DGet.k (k := Sum.inr r.k) hd, _, rfl, ?_⟩
      rw [valR, Option.isSome_map]
      refine ite2 (fun h2 => ?_) (fun h2 => ?_)
      · have hin : r.k ∈ (ks rs).take i := by
          rw [hmem]
          refine Classical.byContradiction fun z => ?_
          rw [roleOf_none.mpr z] at h2; cases h2
        rw [if_pos hin] at hbad
        have hD : dueOf top rs = .taken r.k := by unfold dueOf; rw [hbad]
        exact ⟨.ref r.t, rfl, r.t, _, 0, .str r.k, rfl, rfl, hrT.sq, rfl, by show 2 ≤ sizeLine; decide, ret _ H' hD sm⟩
      have hno : ¬ r.k ∈ (ks rs).take i := fun z => by
        rw [hmem] at z
        cases e : roleOf (rs.take i) r.k with
        | none => exact roleOf_none.mp e z
        | some y => rw [e] at h2; exact h2 rfl
      rw [if_neg hno] at hbad
      have hvn : valV (kvR (rs.take i)) (Sum.inr r.k) = none := by rw [valR, roleOf_none.mpr (by rw [← hmem]; exact hno)]; rfl
      refine ⟨.ref r.t, rfl, r.t, _, 1, .str r.r, rfl, rfl, hrT.sq, rfl, .ref d, rfl, .ref r.t, rfl, r.t, _, 0, .str r.k, rfl, rfl, hrT.sq, rfl, d, _, rfl, DPut.k (k := Sum.inr r.k) hd (by rw [kvR_len, List.length_take]; exact small1000 (by omega)), _, _, rfl, same_at sm nd, ?_, hbad⟩
      rw [putK_new _ hvn, upd_same, List.take_add_one, en]; unfold kvR; rw [List.map_append]; rfl
    · rintro σ H' ⟨y3, y4, rfl, sm, hd, hbad⟩
      rw [rv_len, List.take_length] at hd
      have hbn : takenF [] (ks rs) = none := by
        rw [rv_len] at hbad
        rw [hbad, List.drop_of_length_le (by simp [ks])]; rfl
      have hdue : dueOf top rs = match roleOf rs top with
        | none => .unknown top
        | some r => if r = T "root" then rowsF rs rs else .misfit top := by
        unfold dueOf; rw [hbn] <;> (cases roleOf rs top <;> rfl)
      refine ⟨.str top, rfl, .ref d, rfl, d, _, rfl, DGet.k (k := Sum.inr top) hd, _, rfl, ?_⟩
      rw [valR]
      cases hro : roleOf rs top with
      | none =>
        rw [hro] at hdue
        exact iteT ⟨.str top, rfl, by show 2 ≤ sizeLine; decide, ret _ H' hdue sm⟩
      | some ro =>
        rw [hro] at hdue
        have hdg : DGet H' d (V.str top) (some (V.str ro)) := by
          have := DGet.k (k := Sum.inr top) hd
          rw [valR, hro] at this; exact this
        refine iteF ⟨.ref d, rfl, .str top, rfl, d, .str ro, rfl, hdg, rfl, _, rfl, ?_⟩
        refine ite2 (fun hb => ?_) (fun hb => ?_)
        · have hne : ¬ ro = T "root" := fun e => by rw [e] at hb; revert hb; decide +kernel
          have hD : dueOf top rs = .misfit top := by rw [hdue]; exact if_neg hne
          exact ⟨.str top, rfl, by show 2 ≤ sizeLine; decide, ret _ H' hD sm⟩
        have he : ro = T "root" := by
          by_cases e : ro = T "root"
          · exact e
          · exact absurd (show (!decide (V.str ro = V.str (T "root"))) = true by rw [decide_eq_false (fun z => e (V.str.inj z))]; rfl) hb
        have hD : dueOf top rs = rowsF rs rs := by rw [hdue]; exact if_pos he
        clear hbad hbn hdue hro hdg hb he
        refine ⟨.ref a, rfl, a, rfl, ⟨_, SqL.of (sm _ _ ha)⟩, for_list (K := K) (a := a) (xs := rv rs) (fun i σ H' => ∃ (y3 y4 : Option V), σ = [some (.str top), some (.ref a), some (.ref d), y3, y4] ∧ Same H H' ∧ H' d = some (.dK (kvR rs)) ∧
          rowsF rs rs = rowsF rs (rs.drop i)) ⟨_, _, rfl, sm, hd, rfl⟩ (fun i σ H' _ ⟨_, _, _, sm, _⟩ => SqL.of (sm _ _ ha)) ?_ ?_⟩
        · clear sm hd
          rintro i x σ H' hi ⟨y3, y4, rfl, sm, hd, hF⟩
          unfold rv at hi
          rw [List.getElem?_map] at hi
          cases en : rs[i]? with
          | none => rw [en] at hi; cases hi
          | some r =>
          rw [en] at hi; cases hi
          rw [rowsF_at en] at hF
          obtain ⟨hrT0, hrI0⟩ := hrs r (List.mem_of_getElem? en)
          have hrT := hrT0.kp (Kp.of sm)
          have hrI := hrI0.kp (Kp.of sm)
          refine ⟨.ref r.t, rfl, r.t, _, 2, .ref r.i, rfl, rfl, hrT.sq, rfl, r.i, rfl, ⟨_, hrI.1.sq⟩, for_tup (K := K) (a := r.i) (xs := r.ins.map V.str) (fun j σ H' => ∃ y4 : Option V, σ = [some (.str top), some (.ref a), some (.ref d), some (.ref r.t), y4] ∧ Same H H' ∧ H' d = some (.dK (kvR rs)) ∧
            innF rs r.r r.ins = innF rs r.r (r.ins.drop j)) ⟨_, rfl, sm, hd, rfl⟩ (fun j σ H' _ ⟨_, _, sm, _⟩ => (hrI0.kp (Kp.of sm)).1.sq) ?_ ?_⟩
          · clear sm hd hrT hrI
            rintro j x σ H' hj ⟨y4, rfl, sm, hd, hI⟩
            rw [List.getElem?_map] at hj
            cases ec : r.ins[j]? with
            | none => rw [ec] at hj; cases hj
            | some c =>
            rw [ec] at hj; cases hj
            rw [innF_at ec] at hI
            have hrT := hrT0.kp (Kp.of sm)
            have fin : ∀ D : Du, innF rs r.r r.ins = D → D.bad = true → dueOf top rs = D := fun D h1 h2 => by
              rw [hD, hF, h1]
              cases D <;> first | rfl | cases h2
            refine ⟨.str c, rfl, .ref d, rfl, d, _, rfl, DGet.k (k := Sum.inr c) hd, _, rfl, ?_⟩
            rw [valR]
            cases hro : roleOf rs c with
            | none =>
              rw [hro] at hI
              exact iteT ⟨.str c, rfl, by show 2 ≤ sizeLine; decide, ret _ H' (fin (.unknown c) hI rfl) sm⟩
            | some ro =>
              rw [hro] at hI
              have hdg : DGet H' d (V.str c) (some (V.str ro)) := by
                have := DGet.k (k := Sum.inr c) hd
                rw [valR, hro] at this; exact this
              refine iteF ⟨.ref r.t, rfl, r.t, _, 1, .str r.r, rfl, rfl, hrT.sq, rfl, .ref d, rfl, .str c, rfl, d, .str ro, rfl, hdg, r.r, ro, rfl, fun H3 s3 => ⟨_, rfl, ?_⟩⟩
              refine ite2 (fun hb => ?_) (fun hb => ?_)
              · have hm : ¬ may r.r ro = true := fun z => by rw [z] at hb; cases hb
                exact ⟨.str c, rfl, by show 2 ≤ sizeLine; decide, ret _ H3 (fin (.misfit c) (by rw [hI]; exact if_neg hm) rfl) (sm.trans s3)⟩
              · have hm : may r.r ro = true := by
                  cases hz : may r.r ro with
                  | true => rfl
                  | false => rw [hz] at hb; exact absurd rfl hb
                exact ⟨_, rfl, sm.trans s3, s3 _ _ hd, by rw [hI]; exact if_pos hm⟩
          · rintro σ H' ⟨y4, rfl, sm, hd, hI⟩
            rw [List.length_map, List.drop_of_length_le (Nat.le_refl _)] at hI
            have hI' : innF rs r.r r.ins = .good := hI
            rw [hI'] at hF
            exact ⟨_, _, rfl, sm, hd, hF⟩
        · rintro σ H' ⟨y3, y4, rfl, sm, hd, hF⟩
          rw [rv_len, List.drop_of_length_le (Nat.le_refl _)] at hF
          have hG : dueOf top rs = .good := by rw [hD, hF]; rfl
          exact ⟨by show 2 ≤ sizeLine; decide, ret _ H' hG sm⟩
end
end K05

set_option maxRecDepth 100000
set_option maxHeartbeats 8000000
namespace K05
open PySem PySem.Spec PyProof.Rows L2
theorem passX {P : Program} {w : World} {st : List Env} {H : Hp} {s s' : Shared} {e : Value} {α : Prop} (h : L2N.CX P w st H s E0 e s') : α := by
  obtain ⟨_, _, _, _, _, _, _, _, _, _, _, _, z⟩ := h
  exact z.elim
theorem pe_appK {X : Cx} {K : PySem.W.Frag} (hK : X.K = K) {o e : Expr} {to : TE} {t : L2.TA} {apos cpos : Pos} (ho : PE X o to) (ha : PA X [e] t)
    (hbase : attributeBase o "append" X.env (eval o X.env) = eval o X.env := by rfl)
    (hfew : ((backTo cpos (starEach [e] X.env)).all (fun x => !x.1) && (backToKw cpos (keywordEach [] X.env)).all (fun x => x.1.isSome)
      && decide (([e] : List Expr).length + ([] : List Keyword).length + (if ([] : List Keyword).isEmpty then 0 else 1) < 30)) = true := by rfl)
    (hline : (apos.endLine == cpos.line) = true := by rfl) (hs : starEach [e] X.env = (false, eval e X.env) :: starEach [] X.env := by rfl) (hplain : (backTo cpos (starEach [] X.env)).any (·.1) = false := by rfl) :
    PE X (.Call (.Attribute o "append" apos) [e] [] cpos) (tBM K "list" rAppend to t) := by
  subst hK
  exact pe_bm PySem.F.plainAttrs_list PySem.F.slot_list_append PySem.F.type_list_append mt_append ho ha hbase hfew hline hs hplain
theorem passA0 {X : Cx} : ∀ σ, PassesAt CX0 X σ E0 := fun _ _ _ _ _ _ _ c => c.elim
/-- the class' operators -/
structure Ops (P : Program) (w : World) (K : PySem.W.Frag) (mg : Str → Option Value) (base : Heap) (C CU fi fl fh fg : Addr) (di dl dh dg : FuncData) : Prop where
  it : PySem.W.findIn K (.ref C) "__iter__" = some (some (.ref fi)) ∧ PySem.W.isFn K (.ref fi) = true
  itG : RO.FnN P w K mg base CX0 1 fi di ["self"] (RK.spItK C "_rows")
  itB : Binds K di ["self"] []
  ln : PySem.W.findIn K (.ref C) "__len__" = some (some (.ref fl)) ∧ PySem.W.typeIn K (.ref fl) = some (.type "function")
  lnG : FnOk P w K mg base CX0 1 fl dl ["self"] (spLen C)
  lnB : Binds K dl ["self"] []
  hs : PySem.W.findIn K (.ref C) "__contains__" = some (some (.ref fh)) ∧ PySem.W.typeIn K (.ref fh) = some (.type "function")
  hsG : FnOk P w K mg base CX0 1 fh dh ["self", "kind"] (spHas K C)
  hsB : Binds K dh ["self", "kind"] []
  gt : PySem.W.findIn K (.ref C) "__getitem__" = some (some (.ref fg)) ∧ PySem.W.fnIn K fg = true ∧ PySem.W.isFn K (.ref fg) = true
  gtG : FnOk P w K mg base (L2N.CX P w) 3 fg dg ["self", "kind"] (spGet K C CU)
  gtB : Binds K dg ["self", "kind"] []
section
variable {P : Program} {w : World} {K : PySem.W.Frag} {mg : Str → Option Value} {base : Heap}
/-- a Grammar that tells these rows -/
def GS (K : PySem.W.Frag) (C : Addr) (H : Hp) (p : Addr) (top : Str) (rs : List Rw) : Prop := ∃ rsG, GA K C H p top rsG ∧ rsG.map norm = rs.map norm
def spTells (K : PySem.W.Frag) (C : Addr) : Sp := fun vs H Q _ => ∃ (p a : Addr) (top st : Str) (rs : List Rw), vs = [.ref p, .str top, .ref a, .str st] ∧ GS K C H p top rs ∧ RowsAt K H a rs ∧ 1 ≤ rs.length ∧ rs.length ≤ 12 ∧ (ks rs).Nodup ∧ st ∉ ks rs ∧ ∀ H', Same H H' → Q (.bl true) H'
abbrev nTe : List Str := ["_law_grammar_here", "_law_top", "_law_rows", "_law_stranger", "_law_kinds_here", "_law_pairs", "_law_one", "_law_two", "_law_row_here", "_law_e"]
abbrev pTe : List Str := ["_law_grammar_here", "_law_top", "_law_rows", "_law_stranger"]
theorem scTells : FnScope nTe pTe (defScope sTells) := ⟨rfl, rfl, rfl, by decide +kernel, rfl, by decide +kernel, by decide +kernel⟩
theorem ok_tells {C CT CU CM CL CS fi fl fh fg f f_same f_error : Addr} {di dl dh dg fd fd_same fd_error : FuncData} (B : Blt mg) (Tc : Gmr K mg C) (R : Ers K mg CT CU CM CL CS) (O : Ops P w K mg base C CU fi fl fh fg di dl dh dg) (F : Fun K "_law_tells" "_law_tells" sTells f fd)
    (F_same : Fun K "_law_same" "_law_same" sSame f_same fd_same) (b_same : Binds K fd_same ["_law_one", "_law_two"] []) (g_same : mg "_law_same" = some (.ref f_same))
    (F_error : Fun K "_law_error" "_law_error" sError f_error fd_error) (b_error : Binds K fd_error ["_law_e"] []) (g_error : mg "_law_error" = some (.ref f_error)) :
    FnOk P w K mg base CX0 5 f fd pTe (spTells K C) := by
  have G_same : FnOk P w K mg base CX0 3 f_same fd_same ["_law_one", "_law_two"] (spSame K 2) := ok_same B F_same b_same g_same 2
  have G_sameH : L2H.FnH P w K mg base CX0 2 f_same fd_same ["_law_one", "_law_two"] (spSame K 1) := ok_same1H B F_same b_same g_same (ok_same0H B F_same)
  have G_error : RH.FnE P w K mg base CX0 1 f_error fd_error ["_law_e"] (spErr CT CU CM) := ok_error B R F_error
  refine F.ok scTells (fun vs H Q E h => ?_) (fun cdv A0 outer s H vs Q E hr h => ?_)
  · obtain ⟨p, a, top, st, rs, rfl, _⟩ := h; rfl
  · obtain ⟨p, a, top, st, rs, rfl, hG, hra, hl1, hl12, hnd, hst, q⟩ := h
    have hr1 : Room 1 _ := hr.mono (by decide)
    have hr2 : Room 2 _ := hr.mono (by decide)
    have hr3 : Room 3 _ := hr.mono (by decide)
    refine ⟨_, (pss_cons (ps_setLc (i := 4) (own := [("_law_row_here", 8)]) (g := gName 8) (tt := tYes) rfl scTells.nd rfl rfl (sw_true rfl rfl rfl (by decide +kernel)) (pi_list (pv 2)) (blkOk_by (N := nTe) (sc := defScope sTells) (by decide +kernel)) (fun _ _ _ _ _ => (pg_name (i := 8) scTells.nd rfl (.inl rfl))) (fun _ _ _ _ _ => pts_nil) (fun _ _ _ _ _ => (pe_ix (show IxR _ (rIxT K) from ix_tup) (pv 8) pe_int (fun _ _ => rfl))))
      (pss_cons (ps_if (PW.pt (pw_or (pt_not (pt_val (pe_call G_same hr3 (by rfl) g_same F_same.kp b_same .nil pass0 (pa_cons (pe_fld (pv 0) rfl) (pa_cons (pv 1) pa_nil))))) (pw_or (pt_cmpR op_ne (pe_callB (RO.call_lenOwn O.ln.1 O.ln.2 O.lnG O.lnB hr2) (by rfl) B.len PySem.boot_len (pa_cons (pv 0) pa_nil)) (pe_callB call_len (by rfl) B.len PySem.boot_len (pa_cons (pv 2) pa_nil)) (nomark _)) (pw_or1 (pt_not (pt_val (pe_call G_same hr3 (by rfl) g_same F_same.kp b_same .nil pass0 (pa_cons (pe_callTy (RK.call_listOwnK ⟨O.it.1, O.it.2, O.itG, O.itB⟩ ⟨O.ln.1, O.ln.2, O.lnG, O.lnB⟩ rfl hr) (by rfl) B.list (by decide +kernel) (pa_cons (pv 0) pa_nil)) (pa_cons (pv 4) pa_nil)))))))))
      (pss_one (ps_ret pe_bl))
      pss_nil)
      (pss_cons (ps_set (i := 5) scTells.nd rfl (.inl rfl) (pe_lst pa_nil))
      (pss_cons (ps_lock (ps_for (PassesOwn.never) rfl (RK.pi_ownK ⟨O.it.1, O.it.2, O.itG, O.itB⟩ hr1 (pv 0)) (pg_name (i := 6) scTells.nd rfl (.inl rfl)) (pss_one (ps_for (PassesOwn.never) rfl (RK.pi_ownK ⟨O.it.1, O.it.2, O.itG, O.itB⟩ hr1 (pv 0)) (pg_name (i := 7) scTells.nd rfl (.inl rfl)) (pss_one (ps_expr (pe_bm PySem.F.plainAttrs_list PySem.F.slot_list_append PySem.F.type_list_append mt_append (pv 5) (pa_cons (pe_tup (pa_cons (pv 6) (pa_cons (pv 7) pa_nil))) pa_nil))))))))
      (pss_cons (ps_if (PW.pt (pw_or (pt_cmpR op_ne (pe_callB call_len (by rfl) B.len PySem.boot_len (pa_cons (pv 5) pa_nil)) (pe_op op_mul (pe_callB call_len (by rfl) B.len PySem.boot_len (pa_cons (pv 4) pa_nil)) (pe_callB call_len (by rfl) B.len PySem.boot_len (pa_cons (pv 4) pa_nil))) (nomark _)) (pw_or1 (pt_cmpR (op_neD hr.units) (pe_ix ix_list (pv 5) (pe_un un_neg pe_int) (fun _ _ => rfl)) (pe_tup (pa_cons (pe_ix ix_list (pv 4) (pe_un un_neg pe_int) (fun _ _ => rfl)) (pa_cons (pe_ix ix_list (pv 4) (pe_un un_neg pe_int) (fun _ _ => rfl)) pa_nil))) (nomark _)))))
      (pss_one (ps_ret pe_bl))
      pss_nil)
      (pss_cons (ps_for (PassesOwn.never) rfl (pi_list (pv 2)) (pg_name (i := 8) scTells.nd rfl (.inl rfl))
      (pss_one (ps_if (PW.pt (pw_or (pt_cmpR (RI.op_notInOwn (C := C) (E := E0) O.hsG O.hs.1 O.hs.2 O.hsB hr1 pass0) (pe_ix ix_tup (pv 8) pe_int (fun _ _ => rfl)) (pv 0) (by with_unfolding_all rfl)) (pw_or1 (pt_not (pt_val (pe_call G_same hr3 (by rfl) g_same F_same.kp b_same .nil pass0 (pa_cons (RK.pe_ownIx (C := C) (sp := spGet K C CU) (E := fun _ => E0) (pv 0) (pe_ix ix_tup (pv 8) pe_int (fun _ _ => rfl)) O.gt.1 O.gt.2.1 O.gt.2.2 O.gtG hr O.gtB (fun _ _ _ _ _ _ _ c => passX c)) (pa_cons (pe_tup (pa_cons (pe_ix ix_tup (pv 8) pe_int (fun _ _ => rfl)) (pa_cons (pe_ix ix_tup (pv 8) pe_int (fun _ _ => rfl)) pa_nil))) pa_nil))))))))
       (pss_one (ps_ret pe_bl))
       pss_nil)))
      (pss_cons (ps_if (pt_cmpR (RI.op_inOwn (C := C) (E := E0) O.hsG O.hs.1 O.hs.2 O.hsB hr1 pass0) (pv 3) (pv 0) (by with_unfolding_all rfl))
      (pss_one (ps_ret pe_bl))
      pss_nil)
      (pss_cons (L2N.ps_try_as (i := 9) (Wout := fun _ _ _ _ => False) (ts := fun a cls d => _) rfl rfl scTells.nd rfl rfl ⟨rfl, by decide, .inl R.gL⟩ RN.takes0N
        (fun W pn xe tk _ => pss_one (ps_expr (pe_appK (K := K) rfl (pv 5) (pa_cons (RK.pe_ownIx (pv 0) (pv 3) O.gt.1 O.gt.2.1 O.gt.2.2 O.gtG hr O.gtB (fun σ => L2N.passAt tk σ)) pa_nil))))
        (fun a oe cls d pn hz hf => pss_one (ps_ret (L2H.pe_callH (E := fun _ => E0) G_sameH ⟨hr2.dp, hr2.un⟩ ⟨(a, oe), ⟨rfl, let ⟨vs, hv⟩ := hf; ⟨vs, hv, hz.2.2 vs hv⟩⟩, List.mem_cons_self⟩ (by rfl) g_same F_same.kp b_same (fun _ _ _ _ _ _ _ c => c.elim)
          (pa_cons (RH.pe_callES (E := fun _ => E0) hz.zc G_error ⟨hr1.dp, hr1.un⟩ ⟨rfl, let ⟨vs, hv⟩ := hf; ⟨vs, hv, hz.2.2 vs hv⟩⟩ List.mem_cons_self (by rfl) g_error F_error.kp b_error passA0 (pa_cons (pv 9) pa_nil)) (pa_cons (pe_tup (pa_cons pe_str (pa_cons (pv 3) pa_nil))) pa_nil))))))
      (pss_one (ps_ret pe_bl)))))))))), ?_⟩
    obtain ⟨rsG, hGA, hnm⟩ := hG
    have hksG : ks rsG = ks rs := by rw [← ks_norm rsG, hnm, ks_norm]
    have hlG : rsG.length = rs.length := by have := congrArg List.length hnm; rw [List.length_map, List.length_map] at this; exact this
    obtain ⟨dx, d, fs, es, h1, h2, h3, h4, h5, h6⟩ := id hGA
    have hle : es.length = rs.length := by rw [← hlG, ← h5, List.length_map]
    have hkl : (kvE es).length = rs.length := by rw [kvE_len, hle]
    have hkeys : (kvE es).map (fun kv => kV kv.1) = (ks rs).map V.str := by
      rw [← hksG, ← h5]
      unfold kvE ks
      rw [List.map_map, List.map_map, List.map_map]; rfl
    have hsL : sizeLine = 16777216 := sizeLine_eq
    obtain ⟨ha, hrs⟩ := hra
    refine ⟨.ref a, rfl, a, rfl, ⟨_, SqL.of ha⟩, fun D hD => ?_⟩
    refine lc_list (K := K) (a := a) (xs := rv rs) (fun i H' => H' D = some (.lst (((ks rs).take i).map V.str)) ∧ Same H H') ⟨upd_same, same_new hD⟩ (fun i H' _ ⟨_, sm⟩ => SqL.of (sm _ _ ha)) ?_ ?_
    · rintro i x H' hi ⟨hD', sm⟩
      unfold rv at hi
      rw [List.getElem?_map] at hi
      cases en : rs[i]? with
      | none => rw [en] at hi; cases hi
      | some r =>
      rw [en] at hi; cases hi
      have hrT := ((hrs r (List.mem_of_getElem? en)).kp (.of sm)).1
      have hcat : (ks rs)[i]? = some r.k := by unfold ks; rw [List.getElem?_map, en]; rfl
      have hilt := (List.getElem?_eq_some_iff.mp en).1
      refine ⟨rfl, .ref r.t, rfl, r.t, _, 0, .str r.k, rfl, rfl, hrT.sq, rfl, _, hD', by rw [List.length_map, List.length_take]; exact small1000 (by omega), ?_, same_at sm hD⟩
      rw [upd_same, List.take_add_one, hcat, List.map_append]; rfl
    rintro H1 ⟨hD1, s1⟩
    rw [rv_len, List.take_of_length_le (by unfold ks; rw [List.length_map]; exact Nat.le_refl _)] at hD1
    have hksl : (ks rs).length = rs.length := by unfold ks; rw [List.length_map]
    have leaf : ∀ z : Str, SameV K 0 H1 (V.str z) (V.str z) := fun z => ⟨rfl, .inl ⟨z, rfl⟩⟩
    have h1' := s1 _ _ h1
    have h4' := s1 _ _ h4
    refine ⟨.ref p, rfl, p, C, dx, fs, .str top, rfl, h1', Tc.cl, Tc.n1, h2, .str top, rfl, _, _, rfl, .inl ⟨rfl, .inl ⟨top, rfl⟩⟩, true, rfl, iteF ?_⟩
    refine ⟨.ref p, rfl, p, dx, fs, (kvE es).length, rfl, h1', by rw [hkl, hsL]; omega, ⟨p, dx, d, fs, kvE es, rfl, h1', h3, .inl h4', rfl, rfl⟩, .ref a, rfl, .ref a, rs.length, rfl, .inl ⟨_, SqL.of (s1 _ _ ha), (rv_len rs).symm⟩, rfl, _, rfl, ?_⟩
    rw [hkl, decide_eq_true (p := V.int ((rs.length : Nat) : Int) = V.int ((rs.length : Nat) : Int)) rfl]
    refine iteF ⟨.ref p, rfl, p, dx, d, fs, kvE es, (kvE es).length, rfl, h1', h3, h4', by rw [hkl]; omega, by rw [hkl, hsL]; omega, (fun H' hp' hd' => ⟨p, dx, d, fs, kvE es, rfl, hp', h3, hd', rfl, rfl⟩), fun q0 nq => ?_⟩
    rw [hkeys]
    have s2 := s1.trans (same_new nq (o := .lst ((ks rs).map V.str)))
    have hq0 : (upd H1 q0 (.lst ((ks rs).map V.str))) q0 = some (.lst ((ks rs).map V.str)) := upd_same
    have hD2 := same_new nq (o := .lst ((ks rs).map V.str)) _ _ hD1
    have h1' := same_new nq (o := .lst ((ks rs).map V.str)) _ _ h1'
    have h4' := same_new nq (o := .lst ((ks rs).map V.str)) _ _ h4'
    generalize upd H1 q0 (.lst ((ks rs).map V.str)) = H2 at s2 hq0 hD2 h1' h4' ⊢
    refine ⟨.ref D, rfl, _, _, rfl, .inr ⟨q0, D, _, _, rfl, rfl, .inl ⟨hq0, hD2⟩, rfl, by rw [List.length_map, hksl]; omega, fun i u v hu hv => ?_⟩, true, rfl, iteF ⟨Nat.zero_le _, fun L nL => ?_⟩⟩
    · rw [hu] at hv; cases hv
      rw [List.getElem?_map] at hu
      obtain ⟨z, _, rfl⟩ := Option.map_eq_some_iff.mp hu
      exact .inl ⟨rfl, .inl ⟨z, rfl⟩⟩
    -- the pairs
    have s3 := same_new nL (o := .lst [])
    have hL3 : (upd H2 L (.lst [])) L = some (.lst []) := upd_same
    have h1' := s3 _ _ h1'
    have hd3 := s3 _ _ h4'
    have npd : p ≠ d := ne_of h1 h4 (fun z => nomatch z)
    have nLd : L ≠ d := fun e => by subst e; rw [h4'] at nL; cases nL
    have key : ∀ {i : Nat} {k : Key} {v : V}, (kvE es)[i]? = some (k, v) → ∃ x, (ks rs)[i]? = some x ∧ kV k = .str x := fun {i k v} h => by
      have h' : ((kvE es).map (fun kv => kV kv.1))[i]? = some (kV k) := by rw [List.getElem?_map, h]; rfl
      rw [hkeys, List.getElem?_map] at h'
      obtain ⟨x, hx, e⟩ := Option.map_eq_some_iff.mp h'
      exact ⟨x, hx, e.symm⟩
    refine ⟨d, .dK (kvE es), hd3, True.intro, fun od => ?_⟩
    generalize upd H2 L (.lst []) = H3 at s3 hL3 h1' hd3 ⊢
    have hfz : (upd H3 d (.frz od (.dK (kvE es)))) d = some (.frz od (.dK (kvE es))) := upd_same
    refine ⟨.ref p, rfl, p, dx, d, fs, od, kvE es, rfl, by rw [upd_ne npd]; exact h1', h3, hfz, ?_⟩
    refine for_it walk_keysK (fun i σ H' => ∃ (y6 y7 y8 : Option V) (us : List V), σ = [some (.ref p), some (.str top), some (.ref a), some (.str st), some (.ref D), some (.ref L), y6, y7, y8, none] ∧ H' d = some (.frz od (.dK (kvE es))) ∧ (∀ b o, b ≠ d → H2 b = some o → H' b = some o) ∧
      H' L = some (.lst us) ∧ us.length = i * rs.length ∧ ∀ x y, 0 < i → (ks rs)[i - 1]? = some x → (ks rs)[rs.length - 1]? = some y → ∃ (t : Addr) (us0 : List V), us = us0 ++ [.ref t] ∧ H' t = some (.tup [.str x, .str y]))
      ⟨_, _, _, [], rfl, hfz, fun b o hb e => by rw [upd_ne hb]; exact s3 _ _ e, by rw [upd_ne nLd]; exact hL3, by simp, fun x y h => absurd h (Nat.lt_irrefl 0)⟩ (fun i σ H' _ ⟨_, _, _, _, _, h, _⟩ => h) ?_ ?_
    · rintro i x σ H' H'' hi ⟨y6, y7, y8, us, rfl, hf, hkp, hL', hus, _⟩ ⟨rfl, k, v, hk, rfl⟩
      obtain ⟨x, hx, ekx⟩ := key hk
      rw [ekx]
      have hp' : H'' p = some (.ins C dx fs) := hkp p _ npd (by
        have := h1'
        exact (s2 _ _ h1))
      refine ⟨.ref p, rfl, p, dx, d, fs, od, kvE es, rfl, hp', h3, hf, ?_⟩
      refine for_it walk_keysK (fun j σ H' => ∃ (y7 : Option V) (us : List V), σ = [some (.ref p), some (.str top), some (.ref a), some (.str st), some (.ref D), some (.ref L), some (.str x), y7, y8, none] ∧ H' d = some (.frz od (.dK (kvE es))) ∧ (∀ b o, b ≠ d → H2 b = some o → H' b = some o) ∧
        H' L = some (.lst us) ∧ us.length = i * rs.length + j ∧ ∀ y, 0 < j → (ks rs)[j - 1]? = some y → ∃ (t : Addr) (us0 : List V), us = us0 ++ [.ref t] ∧ H' t = some (.tup [.str x, .str y]))
        ⟨_, us, rfl, hf, hkp, hL', by rw [hus]; rfl, fun y h => absurd h (Nat.lt_irrefl 0)⟩ (fun i σ H' _ ⟨_, _, _, h, _⟩ => h) ?_ ?_
      · clear hf hkp hL' hus hp'
        rintro j v2 σ H' H'' hj ⟨y7, us, rfl, hf, hkp, hL', hus, _⟩ ⟨rfl, k2, v3, hk2, rfl⟩
        obtain ⟨y, hy, eky⟩ := key hk2
        rw [eky]
        have hi12 : i * rs.length ≤ 11 * 12 := Nat.mul_le_mul (by rw [hkl] at hi; omega) hl12
        refine ⟨.ref L, rfl, .inl ⟨rfl, _, SqL.of hL'⟩, .str x, rfl, .str y, rfl, by show 2 ≤ sizeLine; decide, fun t nt => ?_⟩
        have st' := same_new nt (o := .tup [.str x, .str y])
        have ht : (upd H'' t (.tup [.str x, .str y])) t = some (.tup [.str x, .str y]) := upd_same
        generalize upd H'' t (.tup [.str x, .str y]) = H8 at st' ht ⊢
        have hL8 := st' _ _ hL'
        have ntL : t ≠ L := fun e => by subst e; rw [nt] at hL'; cases hL'
        refine ⟨L, _, _, rfl, rfl, hL8, small1000 (by rw [hkl] at hj; omega), _, us ++ [.ref t], rfl, by rw [upd_ne (Ne.symm nLd)]; exact st' _ _ hf, fun b o hb e => ?_, upd_same, by rw [List.length_append, hus]; rfl, fun y' _ hy' => ⟨t, us, rfl, ?_⟩⟩
        · have nbL : b ≠ L := fun z => by subst z; rw [nL] at e; cases e
          rw [upd_ne nbL]; exact st' _ _ (hkp b o hb e)
        · rw [Nat.add_sub_cancel, hy] at hy'; cases hy'
          rw [upd_ne ntL]; exact ht
      · rintro σ H' ⟨y7, us, rfl, hf, hkp, hL', hus, hlast⟩
        rw [hkl] at hus hlast
        refine ⟨_, _, _, us, rfl, hf, hkp, hL', by rw [hus, Nat.succ_mul], fun x' y _ hx' hy => ?_⟩
        rw [Nat.add_sub_cancel, hx] at hx'; cases hx'
        exact hlast y (by omega) hy
    rintro σ H' ⟨y6, y7, y8, us, rfl, hf, hkp, hL', hus, hlast⟩
    rw [hkl] at hus hlast
    refine ⟨hf, ?_⟩
    obtain ⟨l0, kl, hkk⟩ : ∃ l0 kl, ks rs = l0 ++ [kl] := by
      rcases List.eq_nil_or_concat (ks rs) with e | ⟨l0, kl, e⟩
      · rw [e] at hksl; exact absurd hksl (by show ¬ 0 = _; omega)
      · exact ⟨l0, kl, by rw [e, List.concat_eq_append]⟩
    have hl0 : l0.length = rs.length - 1 := by rw [hkk, List.length_append] at hksl; show l0.length = _; have : [kl].length = 1 := rfl; omega
    have hlat : (ks rs)[rs.length - 1]? = some kl := by rw [hkk, ← hl0, List.getElem?_append_right (Nat.le_refl _), Nat.sub_self]; rfl
    have hkM : (ks rs).map V.str = l0.map V.str ++ [V.str kl] := by rw [hkk, List.map_append]; rfl
    obtain ⟨t, us0, eus, ht⟩ := hlast kl kl (by omega) hlat hlat
    have ntd : t ≠ d := ne_of ht hf (fun z => nomatch z)
    have s5 : Same H2 (upd H' d (.dK (kvE es))) := fun b o e => by
      by_cases hb : b = d
      · subst hb
        have h4s := s2 _ _ h4
        rw [h4s] at e; cases e; exact upd_same
      · rw [upd_ne hb]; exact hkp b o hb e
    have hL5 : (upd H' d (.dK (kvE es))) L = some (.lst us) := by rw [upd_ne nLd]; exact hL'
    have ht5 : (upd H' d (.dK (kvE es))) t = some (.tup [.str kl, .str kl]) := by rw [upd_ne ntd]; exact ht
    generalize upd H' d (.dK (kvE es)) = H5 at s5 hL5 ht5 ⊢
    clear hf hkp hL' ht hlast ntd
    have sA : Same H H5 := s2.trans s5
    have hD5 := s5 _ _ hD2
    have okl : okS kl := by
      have hm : kl ∈ ks rs := List.mem_of_getElem? hlat
      obtain ⟨r, hr, e⟩ := List.mem_map.mp hm
      rw [← e]; exact (hrs r hr).2.2.2.2.2
    refine ⟨.ref L, rfl, .ref L, rs.length * rs.length, rfl, .inl ⟨_, SqL.of hL5, hus.symm⟩, .ref D, rfl, .ref D, rs.length, rfl, .inl ⟨_, SqL.of hD5, by rw [List.length_map, hksl]⟩, .ref D, rfl, .ref D, rs.length, rfl, .inl ⟨_, SqL.of hD5, by rw [List.length_map, hksl]⟩, ((rs.length : Nat) : Int), ((rs.length : Nat) : Int), rfl, rfl, .inl ⟨by omega, by omega⟩, rfl, _, rfl, ?_⟩
    rw [show V.int ((rs.length * rs.length : Nat) : Int) = V.int (((rs.length : Nat) : Int) * ((rs.length : Nat) : Int)) by rw [Int.natCast_mul]]
    rw [decide_eq_true (p := V.int (((rs.length : Nat) : Int) * ((rs.length : Nat) : Int)) = V.int (((rs.length : Nat) : Int) * ((rs.length : Nat) : Int))) rfl]
    refine iteF ⟨.ref L, rfl, 1, rfl, L, _, -1, .ref t, rfl, rfl, SqL.of hL5, by rw [eus]; exact atI_last _ _, .ref D, rfl, 1, rfl, D, _, -1, .str kl, rfl, rfl, SqL.of hD5, by rw [hkM]; exact atI_last _ _, .ref D, rfl, 1, rfl, D, _, -1, .str kl, rfl, rfl, SqL.of hD5, by rw [hkM]; exact atI_last _ _, by show 2 ≤ sizeLine; decide, fun t2 nt2 => ?_⟩
    have s6 := same_new nt2 (o := .tup [.str kl, .str kl])
    have ht2 : (upd H5 t2 (.tup [.str kl, .str kl])) t2 = some (.tup [.str kl, .str kl]) := upd_same
    have hL6 := s6 _ _ hL5
    have ht6 := s6 _ _ ht5
    have sA := sA.trans s6
    generalize upd H5 t2 (.tup [.str kl, .str kl]) = H6 at s6 ht2 hL6 ht6 sA ⊢
    have hsh : SeqAt.shaped (.tuple [.str kl, .str kl]) = true := by
      show ((PyData.canLay0 (.str kl) && (PyData.canLay0 (.str kl) && true)) && decide (_ ≤ 64)) = true
      rw [okS_lay okl]; rfl
    refine ⟨.tuple [.str kl, .str kl], .tuple [.str kl, .str kl], .tup (SqT.of ht6) (.cons (.str _) (.cons (.str _) .nil)), .tup (SqT.of ht2) (.cons (.str _) (.cons (.str _) .nil)), hsh, hsh, _, rfl, ?_⟩
    rw [SeqAt.eqv_refl _ (SeqAt.canLay_of_shaped hsh)]
    refine iteF ?_
    have find : ∀ r ∈ rs, ∃ x ∈ rsG, x.k = r.k ∧ x.r = r.r ∧ x.ins = r.ins := fun r hr => by
      have hm : norm r ∈ rsG.map norm := by rw [hnm]; exact List.mem_map.mpr ⟨r, hr, rfl⟩
      obtain ⟨x, hx, e⟩ := List.mem_map.mp hm
      have e1 := congrArg Rw.k e
      have e2 := congrArg Rw.r e
      have e3 := congrArg Rw.ins e
      exact ⟨x, hx, e1, e2, e3⟩
    have hndG : (ks rsG).Nodup := by rw [hksG]; exact hnd
    refine ⟨.ref a, rfl, a, rfl, ⟨_, SqL.of (sA _ _ ha)⟩, for_list (K := K) (a := a) (xs := rv rs) (fun i σ H' => ∃ y8 : Option V, σ = [some (.ref p), some (.str top), some (.ref a), some (.str st), some (.ref D), some (.ref L), y6, y7, y8, none] ∧ Same H6 H') ⟨_, rfl, Same.refl _⟩ (fun i σ H' _ ⟨_, _, sm⟩ => SqL.of (sm _ _ (sA _ _ ha))) ?_ ?_⟩
    · rintro i x σ H' hi ⟨y8, rfl, sm⟩
      unfold rv at hi
      rw [List.getElem?_map] at hi
      cases en : rs[i]? with
      | none => rw [en] at hi; cases hi
      | some r =>
      rw [en] at hi; cases hi
      have hr := List.mem_of_getElem? en
      have sB := sA.trans sm
      obtain ⟨hrT, hrI⟩ := (hrs r hr).kp (Kp.of sB)
      obtain ⟨x, hx, ek, er, ei⟩ := find r hr
      have hGA' := hGA.same sB
      have hp' := sB _ _ h1
      have hin : r.k ∈ ks rsG := by rw [← ek]; exact List.mem_map.mpr ⟨x, hx, rfl⟩
      refine ⟨.ref r.t, rfl, r.t, _, 0, .str r.k, rfl, rfl, hrT.sq, rfl, .ref p, rfl, p, dx, fs, rfl, hp', p, r.k, top, rsG, rfl, hGA', _, rfl, _, rfl, ?_⟩
      rw [decide_eq_true hin]
      refine iteF ⟨.ref p, rfl, .ref r.t, rfl, r.t, _, 0, .str r.k, rfl, rfl, hrT.sq, rfl, p, dx, fs, rfl, hp', p, r.k, top, rsG, rfl, hGA', (fun h => absurd hin h), fun r' t' hf' ht' hI' => ?_⟩
      have er' : r' = x := by
        rw [← ek, find_nodup hndG hx] at hf'
        cases hf'; rfl
      subst er'
      refine ⟨.ref r.t, rfl, r.t, _, 1, .str r.r, rfl, rfl, hrT.sq, rfl, .ref r.t, rfl, r.t, _, 2, .ref r.i, rfl, rfl, hrT.sq, rfl, by show 2 ≤ sizeLine; decide, fun t3 nt3 => ?_⟩
      have s7 := same_new nt3 (o := .tup [.str r.r, .ref r.i])
      refine ⟨_, _, rfl, .inr ⟨t', t3, _, _, rfl, rfl, .inr ⟨.inl (s7 _ _ ht'), .inl upd_same⟩, rfl, by show 2 ≤ 1000; decide, fun i u v hu hv => ?_⟩, true, rfl, iteF ⟨_, rfl, sm.trans s7⟩⟩
      match i with
      | 0 => cases hu; cases hv; rw [er]; exact .inl ⟨rfl, .inl ⟨_, rfl⟩⟩
      | 1 =>
        cases hu; cases hv
        refine .inr ⟨r'.i, r.i, _, _, rfl, rfl, .inr ⟨(hI'.kp (Kp.of s7)).1, (hrI.kp (Kp.of s7)).1⟩, by rw [ei], by rw [List.length_map]; have := hrI.2.1; omega, fun j u v hu hv => ?_⟩
        rw [ei, hv] at hu; cases hu
        rw [List.getElem?_map] at hv
        obtain ⟨z, _, rfl⟩ := Option.map_eq_some_iff.mp hv
        exact ⟨rfl, .inl ⟨z, rfl⟩⟩
      | i + 2 => cases hu
    rintro σ H' ⟨y8, rfl, sm⟩
    have sB := sA.trans sm
    have hGA' := hGA.same sB
    have hp' := sB _ _ h1
    have hL7 := sm _ _ hL6
    have hstG : st ∉ ks rsG := by rw [hksG]; exact hst
    refine ⟨.str st, rfl, .ref p, rfl, p, dx, fs, rfl, hp', p, st, top, rsG, rfl, hGA', _, rfl, _, rfl, ?_⟩
    rw [decide_eq_false hstG]
    refine iteF ⟨.ref L, rfl, .inl ⟨rfl, _, SqL.of hL7⟩, .ref p, rfl, .str st, rfl, p, dx, fs, rfl, hp', p, st, top, rsG, rfl, hGA', fun _ d' hd' => ?_, fun r' t' hf' => ?_⟩
    · refine ⟨true, R.lU, fun _ e he => ?_, fun z => nomatch z⟩
      have sd := sB.trans (same_new hd' (o := .xd [("kind", .str st)]))
      refine ⟨.ref e, rfl, fun oe hz => ⟨.unknown st, d', rfl, rfl, hz, upd_same, fun H8 t8 s8 ht8 => ?_⟩⟩
      refine ⟨.str st, rfl, by show 2 ≤ sizeLine; decide, fun t9 nt9 => ?_⟩
      have s9 := same_new nt9 (o := .tup [.str (T "unknown"), .str st])
      refine ⟨_, _, rfl, .inr ⟨t8, t9, _, _, rfl, rfl, .inr ⟨.inl (s9 _ _ ht8), .inl upd_same⟩, rfl, by show 2 ≤ 1000; decide, fun i u v hu hv => ?_⟩, q _ (sd.trans (s8.trans s9))⟩
      match i with
      | 0 => cases hu; cases hv; exact ⟨rfl, .inl ⟨_, rfl⟩⟩
      | 1 => cases hu; cases hv; exact ⟨rfl, .inl ⟨_, rfl⟩⟩
      | i + 2 => cases hu
    · exact absurd (by
        have hm := List.mem_of_find?_eq_some hf'
        have hk := of_decide_eq_true (List.find?_some (p := fun r : Rw => decide (r.k = st)) hf')
        exact List.mem_map.mpr ⟨r', hm, hk⟩) hstG
end
end K05

set_option maxRecDepth 100000
set_option maxHeartbeats 8000000
namespace K05
open PySem PySem.Spec PyProof.Rows L2
theorem nodup_takenF : ∀ (l seen : List Str), takenF seen l = none → seen.Nodup → (seen ++ l).Nodup
  | [], seen, _, h => by rw [List.append_nil]; exact h
  | c :: l, seen, h, hs => by
    unfold takenF at h
    by_cases hc : c ∈ seen
    · rw [if_pos hc] at h; cases h
    · rw [if_neg hc] at h
      have := nodup_takenF l (seen ++ [c]) h (by
        rw [List.nodup_append]
        exact ⟨hs, by simp, fun a ha b hb => by rw [List.mem_singleton.mp hb]; exact fun e => hc (e ▸ ha)⟩)
      rw [List.append_assoc] at this; exact this
theorem due_nodup {top : Str} {rs : List Rw} (h : dueOf top rs = .good) : (ks rs).Nodup := by
  have e : takenF [] (ks rs) = none := by
    cases e : takenF [] (ks rs) with
    | none => rfl
    | some c => unfold dueOf at h; rw [e] at h; cases h
  exact nodup_takenF (ks rs) [] e List.nodup_nil
theorem good_of {D : Du} (h : D.bad = false) : D = .good := by cases D <;> first | rfl | cases h
theorem Ers.lD {K : PySem.W.Frag} {mg : Str → Option Value} {CT CU CM CL CS : Addr} (R : Ers K mg CT CU CM CL CS) (D : Du) : PySem.W.exmOne K (.ref (D.cls CT CU CM)) (.ref CL) = some true := by
  cases D
  · exact R.lT
  · exact R.lT
  · exact R.lU
  · exact R.lM
theorem canStrs : ∀ {l : List Str}, (∀ x ∈ l, okS x) → PyData.canLayAll0 (l.map PyData.str) = true ∧ PyData.depthAll (l.map PyData.str) = 0
  | [], _ => ⟨rfl, rfl⟩
  | x :: l, h => by
    obtain ⟨h1, h2⟩ := canStrs (l := l) fun y hy => h y (List.mem_cons_of_mem _ hy)
    refine ⟨?_, ?_⟩
    · show (PyData.canLay0 (.str x) && PyData.canLayAll0 (l.map PyData.str)) = true
      rw [okS_lay (h x List.mem_cons_self), h1]; rfl
    · show max 0 (PyData.depthAll (l.map PyData.str)) = 0
      rw [h2]; rfl
theorem dp_strs {K : PySem.W.Frag} {H : Hp} : ∀ l : List Str, DpAll K H (l.map V.str) (l.map PyData.str)
  | [] => .nil
  | x :: l => .cons (.str x) (dp_strs l)
theorem dp_all {K : PySem.W.Frag} {H : Hp} {n : Nat} : ∀ {xs : List V}, (∀ v ∈ xs, ∃ d, Dp K H v d ∧ d.canLay0 = true ∧ d.depth ≤ n) → ∃ ds, DpAll K H xs ds ∧ PyData.canLayAll0 ds = true ∧ PyData.depthAll ds ≤ n
  | [], _ => ⟨[], .nil, rfl, Nat.zero_le _⟩
  | x :: xs, h => by
    obtain ⟨d, h1, h2, h3⟩ := h x List.mem_cons_self
    obtain ⟨ds, k1, k2, k3⟩ := dp_all (xs := xs) fun v hv => h v (List.mem_cons_of_mem _ hv)
    refine ⟨d :: ds, .cons h1 k1, ?_, ?_⟩
    · show (d.canLay0 && PyData.canLayAll0 ds) = true
      rw [h2, k2]; rfl
    · show max d.depth (PyData.depthAll ds) ≤ n
      omega
theorem dp_rows {K : PySem.W.Frag} {H : Hp} {rs : List Rw} (h : ∀ r ∈ rs, RowT K H r) : ∃ ds, DpAll K H (rv rs) ds ∧ SeqAt.shaped (.list ds) = true := by
  obtain ⟨ds, k1, k2, k3⟩ := dp_all (K := K) (H := H) (n := 2) (xs := rv rs) fun v hv => by
    obtain ⟨r, hr, rfl⟩ := List.mem_map.mp hv
    obtain ⟨h1, h2, h3, h4, h5, h6⟩ := h r hr
    obtain ⟨c1, c2⟩ := canStrs h4
    refine ⟨.tuple [.str r.k, .str r.r, .tuple (r.ins.map PyData.str)], .tup h1.sq (.cons (.str _) (.cons (.str _) (.cons (.tup h2.sq (dp_strs r.ins)) .nil))), ?_, ?_⟩
    · show (PyData.canLay0 (.str r.k) && (PyData.canLay0 (.str r.r) && (PyData.canLayAll0 (r.ins.map PyData.str) && true))) = true
      rw [okS_lay h6, okS_lay (okS_roles _ h5), c1]; rfl
    · show max 0 (max 0 (max (PyData.depthAll (r.ins.map PyData.str) + 1) 0)) + 1 ≤ 2
      rw [c2]; decide
  refine ⟨ds, k1, ?_⟩
  show (PyData.canLayAll0 ds && decide (PyData.depthAll ds + 1 ≤ 64)) = true
  rw [k2, decide_eq_true (by omega)]; rfl
theorem sh_eq {d : PyData} (h : SeqAt.shaped d = true) : PyData.eqv d d = true := SeqAt.eqv_refl d (SeqAt.canLay_of_shaped h)
theorem RowsAt.but {K : PySem.W.Frag} {H H' : Hp} {a g : Addr} {xs : List V} {rs : List Rw} (h : RowsAt K H a rs) (hne : a ≠ g) (hg : H g = some (.lst xs)) (s : ∀ x o, x ≠ g → H x = some o → H' x = some o) : RowsAt K H' a rs :=
  ⟨s _ _ hne h.1, fun r hr => (h.2 r hr).kp (Kp.but hg (fun z => z) s)⟩
section
variable {P : Program} {w : World} {K : PySem.W.Frag} {mg : Str → Option Value} {base : Heap}
/-! ### _law_asked -/
def spAsked (K : PySem.W.Frag) : Sp := fun vs H Q _ => ∃ (a : Addr) (top st : Str) (rs : List Rw), vs = [.str top, .ref a, .str st] ∧ RowsAt K H a rs ∧ 1 ≤ rs.length ∧ rs.length ≤ 12 ∧ st ∉ ks rs ∧ ∀ H', Same H H' → Q (.bl true) H'
abbrev nAs : List Str := ["_law_top", "_law_rows", "_law_stranger", "_law_passed", "_law_grammar_here", "_law_e"]
abbrev pAs : List Str := ["_law_top", "_law_rows", "_law_stranger"]
theorem scAsked : FnScope nAs pAs (defScope sAsked) := ⟨rfl, rfl, rfl, by decide +kernel, rfl, by decide +kernel, by decide +kernel⟩
theorem ok_asked {C CT CU CM CL CS f_init f f_same f_error f_due f_may f_tells : Addr} {fd_init fd fd_same fd_error fd_due fd_may fd_tells : FuncData} (B : Blt mg) (Tc : Gmr K mg C) (M : Mk K C f_init) (R : Ers K mg CT CU CM CL CS) (F : Fun K "_law_asked" "_law_asked" sAsked f fd)
    (G_init : FnOk P w K mg base (L2N.CX P w) 4 f_init fd_init pIn (spInit K C CT CU CM)) (b_init : Binds K fd_init pIn [])
    (F_same : Fun K "_law_same" "_law_same" sSame f_same fd_same) (b_same : Binds K fd_same ["_law_one", "_law_two"] []) (g_same : mg "_law_same" = some (.ref f_same))
    (F_error : Fun K "_law_error" "_law_error" sError f_error fd_error) (b_error : Binds K fd_error ["_law_e"] []) (g_error : mg "_law_error" = some (.ref f_error))
    (F_may : Fun K "_law_may" "_law_may" sMay f_may fd_may) (b_may : Binds K fd_may ["_law_outer", "_law_inner"] []) (g_may : mg "_law_may" = some (.ref f_may))
    (F_due : Fun K "_law_due" "_law_due" sDue f_due fd_due) (b_due : Binds K fd_due ["_law_top", "_law_rows"] []) (g_due : mg "_law_due" = some (.ref f_due))
    (F_tells : Fun K "_law_tells" "_law_tells" sTells f_tells fd_tells) (b_tells : Binds K fd_tells pTe []) (g_tells : mg "_law_tells" = some (.ref f_tells)) (G_tells : FnOk P w K mg base CX0 5 f_tells fd_tells pTe (spTells K C)) :
    FnOk P w K mg base CX0 6 f fd pAs (spAsked K) := by
  have G_sameH : L2H.FnH P w K mg base CX0 2 f_same fd_same ["_law_one", "_law_two"] (spSame K 1) := ok_same1H B F_same b_same g_same (ok_same0H B F_same)
  have G_error : RH.FnE P w K mg base CX0 1 f_error fd_error ["_law_e"] (spErr CT CU CM) := ok_error B R F_error
  have G_due : FnOk P w K mg base CX0 2 f_due fd_due ["_law_top", "_law_rows"] (spDue K) := ok_due F_due F_may b_may g_may
  have G_dueH : L2H.FnH P w K mg base CX0 2 f_due fd_due ["_law_top", "_law_rows"] (spDue K) := ok_dueH F_due F_may b_may g_may
  refine F.ok scAsked (fun vs H Q E h => ?_) (fun cdv A0 outer s H vs Q E hr h => ?_)
  · obtain ⟨a, top, st, rs, rfl, _⟩ := h; rfl
  · obtain ⟨a, top, st, rs, rfl, hra, hl1, hl12, hst, q⟩ := h
    have hr1 : Room 1 _ := hr.mono (by decide)
    have hr2 : Room 2 _ := hr.mono (by decide)
    refine ⟨_, (pss_cons (ps_set (i := 3) scAsked.nd rfl (.inl rfl) (pe_callTy call_list_of (by rfl) B.list (by decide +kernel) (pa_cons (pv 1) pa_nil)))
      (pss_cons (L2N.ps_try_as (i := 5) (Wout := fun _ _ _ _ => False) (ts := fun a cls d => _) rfl rfl scAsked.nd rfl rfl ⟨rfl, by decide, .inl R.gL⟩ RN.takes0N
        (fun W pn xe tk _ => pss_one (ps_set (i := 4) scAsked.nd rfl (.inl rfl) (R6.pe_makeS M G_init hr (by rfl) Tc.mgC b_init .nil (fun σ => L2N.passAt tk σ) (pa_cons (pv 0) (pa_cons (pv 3) pa_nil)))))
        (fun a oe cls d pn hz hf => pss_one (ps_ret (pe_and (L2H.pe_callH (E := fun _ => E0) G_sameH ⟨hr2.dp, hr2.un⟩ ⟨(a, oe), ⟨rfl, let ⟨vs, hv⟩ := hf; ⟨vs, hv, hz.2.2 vs hv⟩⟩, List.mem_cons_self⟩ (by rfl) g_same F_same.kp b_same (fun _ _ _ _ _ _ _ c => c.elim)
          (pa_cons (RH.pe_callES (E := fun _ => E0) hz.zc G_error ⟨hr1.dp, hr1.un⟩ ⟨rfl, let ⟨vs, hv⟩ := hf; ⟨vs, hv, hz.2.2 vs hv⟩⟩ List.mem_cons_self (by rfl) g_error F_error.kp b_error passA0 (pa_cons (pv 5) pa_nil))
          (pa_cons (L2H.pe_callH (E := fun _ => E0) G_dueH ⟨hr2.dp, hr2.un⟩ ⟨(a, oe), ⟨rfl, let ⟨vs, hv⟩ := hf; ⟨vs, hv, hz.2.2 vs hv⟩⟩, List.mem_cons_self⟩ (by rfl) g_due F_due.kp b_due (fun _ _ _ _ _ _ _ c => c.elim) (pa_cons (pv 0) (pa_cons (pv 1) pa_nil))) pa_nil)))
          (pe_one (pe_cmpR (show OpR _ (compareOp .Eq) (rEqD K) from op_eqD hr.units) (pv 3) (pv 1) (nomark _)))))))
      (pss_cons (ps_if (PW.pt (pw_or (pt_cmpR (op_neD hr.units) (pe_call G_due hr2 (by rfl) g_due F_due.kp b_due .nil pass0 (pa_cons (pv 0) (pa_cons (pv 1) pa_nil))) (pe_tup (pa_cons pe_str (pa_cons pe_str pa_nil))) (nomark _)) (pw_or (pt_cmpR (op_neD hr.units) (pv 3) (pv 1) (nomark _)) (pw_or1 (pt_not (pt_val (pe_call G_tells hr (by rfl) g_tells F_tells.kp b_tells .nil pass0 (pa_cons (pv 4) (pa_cons (pv 0) (pa_cons (pv 1) (pa_cons (pv 2) pa_nil)))))))))))
      (pss_one (ps_ret pe_bl))
      pss_nil)
      (pss_cons (ps_asg (pe_tup (pa_cons (pv 2) (pa_cons pe_str (pa_cons (pe_tup pa_nil) pa_nil)))) (pg_sub (pv 3) pe_int set_list))
      (pss_cons (ps_expr (pe_bm PySem.F.plainAttrs_list PySem.F.slot_list_append PySem.F.type_list_append mt_append (pv 3) (pa_cons (pe_tup (pa_cons (pe_ix ix_tup (pe_ix ix_list (pv 1) pe_int (fun _ _ => rfl)) pe_int (fun _ _ => rfl)) (pa_cons pe_str (pa_cons (pe_tup (pa_cons (pv 2) pa_nil)) pa_nil)))) pa_nil)))
      (pss_one (ps_ret (pe_call G_tells hr (by rfl) g_tells F_tells.kp b_tells .nil pass0 (pa_cons (pv 4) (pa_cons (pv 0) (pa_cons (pv 1) (pa_cons (pv 2) pa_nil)))))))))))), ?_⟩
    refine ⟨.ref a, rfl, a, _, rfl, .inl (SqL.of hra.1), fun l nl => ?_⟩
    have s1 := same_new nl (o := .lst (rv rs))
    have hl : (upd H l (.lst (rv rs))) l = some (.lst (rv rs)) := upd_same
    generalize upd H l (.lst (rv rs)) = H1 at s1 hl ⊢
    have hra1 := hra.same s1
    refine ⟨.str top, rfl, .ref l, rfl, fun p dx np ndx hne => ?_⟩
    have sM : Same H1 (upd (upd H1 dx (.own p)) p (.ins C dx [])) := made_up np ndx
    refine ⟨p, dx, l, top, rs, rfl, upd_same, ⟨sM _ _ hl, (hra1.same sM).2⟩, by omega, fun hb H3 d hk hd => ?_, fun hb H3 hk hF => ⟨rfl, ?_⟩⟩
    · have s3 : Same H1 H3 := made_same np ndx hk
      have sd := s3.trans (same_new hd (o := .xd [("kind", .str (dueOf top rs).kind)]))
      refine ⟨true, R.lD _, fun _ e he => ?_, fun z => nomatch z⟩
      refine ⟨.ref e, rfl, fun oe hz => ⟨dueOf top rs, d, rfl, hb, hz, upd_same, fun H4 t s4 ht => ?_⟩⟩
      have s14 := sd.trans s4
      refine ⟨.str top, rfl, .ref a, rfl, a, top, rs, rfl, hra1.same s14, by omega, fun H5 t' s5 ht' => ?_⟩
      have s15 := s14.trans s5
      refine ⟨_, _, rfl, .inr ⟨t, t', _, _, rfl, rfl, .inr ⟨.inl (s5 _ _ ht), .inl ht'⟩, rfl, by show 2 ≤ 1000; decide, fun i u v hu hv => ?_⟩, true, rfl, iteT ?_⟩
      · match i with
        | 0 => cases hu; cases hv; exact ⟨rfl, .inl ⟨_, rfl⟩⟩
        | 1 => cases hu; cases hv; exact ⟨rfl, .inl ⟨_, rfl⟩⟩
        | i + 2 => cases hu
      · have hra5 := hra1.same s15
        obtain ⟨ds, k1, k2⟩ := dp_rows hra5.2
        refine ⟨.ref l, rfl, .ref a, rfl, .list ds, .list ds, .lst (SqL.of (s15 _ _ hl)) k1, .lst (SqL.of hra5.1) k1, k2, k2, ?_⟩
        rw [sh_eq k2]
        exact q _ (s1.trans s15)
    · have hgood := good_of hb
      have s3 : Same H1 H3 := made_same np ndx hk
      have s03 := s1.trans s3
      have hra3 := hra1.same s3
      have hl3 := s3 _ _ hl
      refine ⟨.str top, rfl, .ref a, rfl, a, top, rs, rfl, hra3, by omega, fun H4 t s4 ht => ?_⟩
      rw [hgood] at ht
      refine ⟨by show 2 ≤ sizeLine; decide, fun t2 nt2 => ?_⟩
      have s5 := same_new nt2 (o := .tup [.str (T "good"), .str (T "")])
      have ht2 : (upd H4 t2 (.tup [.str (T "good"), .str (T "")])) t2 = some (.tup [.str (T "good"), .str (T "")]) := upd_same
      have ht5 := s5 _ _ ht
      generalize upd H4 t2 (.tup [.str (T "good"), .str (T "")]) = H5 at s5 ht2 ht5 ⊢
      have hsh : SeqAt.shaped (.tuple [.str (T "good"), .str (T "")]) = true := by decide +kernel
      have s35 := s4.trans s5
      refine ⟨.tuple [.str (T "good"), .str (T "")], .tuple [.str (T "good"), .str (T "")], .tup (SqT.of ht5) (.cons (.str _) (.cons (.str _) .nil)), .tup (SqT.of ht2) (.cons (.str _) (.cons (.str _) .nil)), hsh, hsh, _, rfl, ?_⟩
      rw [sh_eq hsh]
      have hra5 := hra3.same s35
      have hl5 := s35 _ _ hl3
      obtain ⟨ds, k1, k2⟩ := dp_rows hra5.2
      refine iteF ⟨.ref l, rfl, .ref a, rfl, .list ds, .list ds, .lst (SqL.of hl5) k1, .lst (SqL.of hra5.1) k1, k2, k2, _, rfl, ?_⟩
      rw [sh_eq k2]
      have hF5 := hF.same s35
      have hnd := due_nodup hgood
      refine iteF ⟨.ref p, rfl, .str top, rfl, .ref a, rfl, .str st, rfl, p, a, top, st, rs, rfl, ⟨rs, hF5, rfl⟩, hra5, hl1, hl12, hnd, hst, fun H6 s6 => ⟨true, rfl, iteF ?_⟩⟩
      have hF6 := hF5.same s6
      have hra6 := hra5.same s6
      have hl6 := s6 _ _ hl5
      have s06 := s03.trans (s35.trans s6)
      have nal : a ≠ l := ne_of_none hra.1 nl
      refine ⟨.str st, rfl, Nat.zero_le _, fun e0 ne0 => ⟨by show 3 ≤ sizeLine; decide, fun t3 nt3 => ?_⟩⟩
      have sa := same_new ne0 (o := .tup [])
      have sb := same_new nt3 (o := .tup [.str st, .str (T "ref"), .ref e0])
      have s67 := sa.trans sb
      generalize upd (upd H6 e0 (.tup [])) t3 (.tup [.str st, .str (T "ref"), .ref e0]) = H7 at s67 ⊢
      clear sa sb nt3
      have hF7 := hF6.same s67
      have hra7 := hra6.same s67
      have hl7 := s67 _ _ hl6
      have s07 := s06.trans s67
      have hix : ixN (rv rs).length 0 = some 0 := by
        unfold ixN; rw [if_pos (by decide), if_pos (by rw [rv_len]; omega)]; rfl
      refine ⟨.ref l, rfl, l, _, 0, 0, rfl, rfl, hl7, hix, ?_⟩
      have k8 : ∀ b o, b ≠ l → H7 b = some o → (upd H7 l (.lst ((rv rs).set 0 (.ref t3)))) b = some o := upd_but
      have hl8 : (upd H7 l (.lst ((rv rs).set 0 (.ref t3)))) l = some (.lst ((rv rs).set 0 (.ref t3))) := upd_same
      generalize upd H7 l (.lst ((rv rs).set 0 (.ref t3))) = H8 at k8 hl8 ⊢
      have hF8 := hF7.but hl7 k8
      have hra8 := hra7.but nal hl7 k8
      have s08 : Same H H8 := fun b o e => k8 b o (fun z => by subst z; rw [nl] at e; cases e) (s07 _ _ e)
      obtain ⟨r0, hr0⟩ : ∃ r0, rs[0]? = some r0 := ⟨_, List.getElem?_eq_getElem (by omega)⟩
      have hr0T := (hra8.2 r0 (List.mem_of_getElem? hr0)).1
      refine ⟨.ref l, rfl, .inl ⟨rfl, _, SqL.of hl8⟩, .ref a, rfl, a, _, 0, .ref r0.t, rfl, rfl, SqL.of hra8.1, atI_nat (j := 0) (rv_at hr0), r0.t, _, 0, .str r0.k, rfl, rfl, hr0T.sq, rfl, .str st, rfl, by show 1 ≤ sizeLine; decide, fun t4 nt4 => ⟨by show 3 ≤ sizeLine; decide, fun t5 nt5 => ?_⟩⟩
      have sa := same_new nt4 (o := .tup [.str st])
      have sb := same_new nt5 (o := .tup [.str r0.k, .str (T "span"), .ref t4])
      have s89 := sa.trans sb
      generalize upd (upd H8 t4 (.tup [.str st])) t5 (.tup [.str r0.k, .str (T "span"), .ref t4]) = H9 at s89 ⊢
      have hl9 := s89 _ _ hl8
      refine ⟨l, _, _, rfl, rfl, hl9, by rw [List.length_set, rv_len]; exact small1000 (by omega), ?_⟩
      have k10 : ∀ b o, b ≠ l → H9 b = some o → (upd H9 l (.lst ((rv rs).set 0 (.ref t3) ++ [.ref t5]))) b = some o := upd_but
      generalize upd H9 l (.lst ((rv rs).set 0 (.ref t3) ++ [.ref t5])) = H10 at k10 ⊢
      have hF10 := (hF8.same s89).but hl9 k10
      have hra10 := (hra8.same s89).but nal hl9 k10
      have s010 : Same H H10 := fun b o e => k10 b o (fun z => by subst z; rw [nl] at e; cases e) (s89 _ _ (s08 _ _ e))
      exact ⟨.ref p, rfl, .str top, rfl, .ref a, rfl, .str st, rfl, p, a, top, st, rs, rfl, ⟨rs, hF10, rfl⟩, hra10, hl1, hl12, hnd, hst, fun H11 s11 => q _ (s010.trans s11)⟩
end
end K05

set_option maxRecDepth 100000
set_option maxHeartbeats 8000000
namespace K05
open PySem PySem.Spec PyProof.Rows L2
/-! ### tuples cut and joined -/
def rCatU (K : PySem.W.Frag) : R2 := fun x y H Q => ∃ a b xs ys, x = .ref a ∧ y = .ref b ∧ TA K H a xs ∧ TA K H b ys ∧ xs.length + ys.length ≤ sizeLine ∧ ∀ H' p, Same H H' → TA K H' p (xs ++ ys) → Q (.ref p) H'
theorem op_catU {X : Cx} : OpR X (binaryOp .Add) (rCatU X.K) := by
  intro pins s σ H x y v u Q I rx ry h
  obtain ⟨a, b, xs, ys, rfl, rfl, ha, hb, hz, q⟩ := h
  refine op_catA pins s σ H _ _ v u Q I rx ry ⟨a, b, xs, ys, rfl, rfl, ha.sq, hb.sq, hz, fun e => q H b (Same.refl H) (by rw [e]; exact hb), fun _ e => q H a (Same.refl H) (by rw [e, List.append_nil]; exact ha), fun _ _ p np => q _ p (same_new np) (.inl upd_same)⟩
def rSlU (K : PySem.W.Frag) : V → Option Int → Option Int → Hp → VK → Prop := fun x lo hi H Q => ∃ a xs, x = .ref a ∧ TA K H a xs ∧ ∀ H' p, Same H H' → TA K H' p (cutV xs lo hi) → Q (.ref p) H'
theorem sl_tupU {X : Cx} : SlR X (rSlU X.K) := by
  intro pins s σ H x v vl vu lo hi sl Q I rx hs pl pu h
  obtain ⟨a, xs, rfl, hx, q⟩ := h
  refine sl_tupA pins s σ H _ v vl vu lo hi sl Q I rx hs pl pu ⟨a, xs, rfl, hx.sq, fun hw => q H a (Same.refl H) ?_, fun _ p np => q _ p (same_new np) (.inl upd_same)⟩
  have e : cutV xs lo hi = xs := by
    unfold cutV
    rw [hw.1, hw.2, List.drop_zero, Nat.sub_zero, List.take_length]
  rw [e]; exact hx
theorem cutV_at (xs : List V) {m : Nat} (h : m ≤ xs.length) : cutV xs none (some (m : Int)) = xs.take m ∧ cutV xs (some (m : Int)) none = xs.drop m := by
  unfold cutV
  rw [HT.sIx_none, HT.sIx_nat, HT.sIx_none, Nat.min_eq_left h]
  refine ⟨?_, ?_⟩
  · show (xs.drop 0).take (m - 0) = _
    rw [List.drop_zero, Nat.sub_zero]
  · rw [HT.sIx_nat, Nat.min_eq_left h]
    show (xs.drop m).take (xs.length - m) = _
    rw [List.take_of_length_le (by rw [List.length_drop]; exact Nat.le_refl _)]
/-! ### rows changed -/
def ChG (K : PySem.W.Frag) (H H' : Hp) (l RL : Addr) (m : Nat) (st : Str) (rs : List Rw) (n : Nat) : Prop := Same H H' ∧ H' l = some (.lst (rv rs)) ∧ H' RL = some (.lst (roles.map V.str)) ∧ rs.length = m ∧ (∀ r ∈ rs, RowT K H' r ∧ r.ins.length ≤ 12 + n) ∧ st ∉ ks rs
theorem ChG.same {K : PySem.W.Frag} {H H1 H2 : Hp} {l RL : Addr} {m n : Nat} {st : Str} {rs : List Rw} (g : ChG K H H1 l RL m st rs n) (s : Same H1 H2) : ChG K H H2 l RL m st rs n :=
  let ⟨h1, h2, h3, h4, h5, h6⟩ := g; ⟨h1.trans s, s _ _ h2, s _ _ h3, h4, fun r hr => ⟨(h5 r hr).1.kp (Kp.of s), (h5 r hr).2⟩, h6⟩
theorem ChG.next {K : PySem.W.Frag} {H H1 : Hp} {l RL : Addr} {m n : Nat} {st : Str} {rs : List Rw} (g : ChG K H H1 l RL m st rs n) : ChG K H H1 l RL m st rs (n + 1) :=
  let ⟨h1, h2, h3, h4, h5, h6⟩ := g; ⟨h1, h2, h3, h4, fun r hr => ⟨(h5 r hr).1, Nat.le_succ_of_le (h5 r hr).2⟩, h6⟩
theorem mem_set {rs : List Rw} {A : Nat} {x r : Rw} (h : r ∈ rs.set A x) : r ∈ rs ∨ r = x := List.mem_or_eq_of_mem_set h
theorem ChG.set {K : PySem.W.Frag} {H H1 : Hp} {l RL : Addr} {m n : Nat} {st : Str} {rs : List Rw} (g : ChG K H H1 l RL m st rs n) (nl : H l = none) (hne : RL ≠ l) (A : Nat) {x : Rw} (hx : RowT K H1 x) (hxl : x.ins.length ≤ 12 + n) (hxk : x.k ≠ st) :
    ChG K H (upd H1 l (.lst ((rv rs).set A (.ref x.t)))) l RL m st (rs.set A x) n := by
  obtain ⟨h1, h2, h3, h4, h5, h6⟩ := g
  have kp : Kp H1 (upd H1 l (.lst ((rv rs).set A (.ref x.t)))) := Kp.but h2 (fun z => z) upd_but
  refine ⟨same_at h1 nl, by rw [upd_same]; unfold rv; rw [List.map_set], by rw [upd_ne hne]; exact h3, by rw [List.length_set]; exact h4, fun r hr => ?_, fun hm => ?_⟩
  · rcases mem_set hr with hr | rfl
    · exact ⟨(h5 r hr).1.kp kp, (h5 r hr).2⟩
    · exact ⟨hx.kp kp, hxl⟩
  · obtain ⟨r, hr, e⟩ := List.mem_map.mp hm
    rcases mem_set hr with hr | rfl
    · exact h6 (List.mem_map.mpr ⟨r, hr, e⟩)
    · exact hxk e
def lsC : List Int := [4, 6, 12, 12, 12, 6, 12, 12, 12, 6, 12, 12, 12]
theorem lsC_at : ∀ n, n < 3 → lsC[4 * n + 1]? = some 6 ∧ lsC[4 * n + 2]? = some 12 ∧ lsC[4 * n + 3]? = some 12 ∧ lsC[4 * n + 4]? = some 12 := by decide +kernel
section
variable {P : Program} {w : World} {K : PySem.W.Frag} {mg : Str → Option Value} {base : Heap}
/-! ### _law_put -/
def spPut (K : PySem.W.Frag) : Sp := fun vs H Q _ => ∃ (i : Addr) (n : Int) (c : Str) (ins : List Str), vs = [.ref i, .int n, .str c] ∧ TA K H i (ins.map V.str) ∧ ins.length ≤ 100 ∧ ∀ H' i' ins', Same H H' → TA K H' i' (List.map V.str ins') → ins'.length ≤ ins.length + 1 → (∀ x ∈ ins', x ∈ ins ∨ x = c) → Q (.ref i') H'
theorem scPut : FnScope ["_law_inner", "_law_at", "_law_kind", "_law_place"] ["_law_inner", "_law_at", "_law_kind"] (defScope sPut) := ⟨rfl, rfl, rfl, by decide +kernel, rfl, by decide +kernel, by decide +kernel⟩
theorem ok_put {f : Addr} {fd : FuncData} (B : Blt mg) (F : Fun K "_law_put" "_law_put" sPut f fd) : FnOk P w K mg base CX0 1 f fd ["_law_inner", "_law_at", "_law_kind"] (spPut K) := by
  refine F.ok scPut (fun vs H Q E h => ?_) (fun cdv A0 outer s H vs Q E hr h => ?_)
  · obtain ⟨i, n, c, ins, rfl, _⟩ := h; rfl
  · obtain ⟨i, n, c, ins, rfl, hT, hlen, q⟩ := h
    refine ⟨_, (pss_cons (ps_if (pt_cmpR op_in_seq (pv 2) (pv 0) (by with_unfolding_all rfl))
      (pss_one (ps_ret (pv 0)))
      pss_nil)
      (pss_cons (ps_set (i := 3) scPut.nd rfl (.inl rfl) (pe_op op_modN (pe_callTy call_int1 (by rfl) B.int (by decide +kernel) (pa_cons (pv 1) pa_nil)) (pe_op op_add (pe_callB call_len (by rfl) B.len PySem.boot_len (pa_cons (pv 0) pa_nil)) pe_int)))
      (pss_one (ps_ret (pe_op op_catU (pe_op op_catU (pe_slice sl_tupU (pv 0) po_none (po_some (pv 3))) (pe_tup (pa_cons (pv 2) pa_nil))) (pe_slice sl_tupU (pv 0) (po_some (pv 3)) po_none)))))), ?_⟩
    have hsL : sizeLine = 16777216 := sizeLine_eq
    refine ⟨.str c, rfl, .ref i, rfl, i, _, rfl, .inr hT.sq, rfl, flat_strs _, _, rfl, ?_⟩
    show (if (inV _ _) = true then _ else _)
    rw [inV_strs]
    refine ite2 (fun _ => ⟨.ref i, rfl, q H i ins (Same.refl H) hT (Nat.le_succ _) fun x hx => .inl hx⟩) (fun _ => ?_)
    refine ⟨.int n, rfl, .inl ⟨n, rfl, .ref i, rfl, .ref i, ins.length, rfl, .inr ⟨_, hT.sq, by rw [List.length_map]⟩, (ins.length : Int), 1, rfl, rfl, n, _, rfl, rfl, (show (ins.length : Int) + 1 ≠ 0 by omega), ?_⟩⟩
    have p0 : 0 ≤ n.fmod ((ins.length : Int) + 1) := Int.fmod_nonneg_of_pos _ (by omega)
    have p1 : n.fmod ((ins.length : Int) + 1) < (ins.length : Int) + 1 := Int.fmod_lt_of_pos _ (by omega)
    have hpl : n.fmod ((ins.length : Int) + 1) = ((n.fmod ((ins.length : Int) + 1)).toNat : Int) := by omega
    have hcv := cutV_at (ins.map V.str) (m := (n.fmod ((ins.length : Int) + 1)).toNat) (by rw [List.length_map]; omega)
    rw [← hpl] at hcv
    refine ⟨.ref i, rfl, .int (n.fmod ((ins.length : Int) + 1)), rfl, _, rfl, i, _, rfl, hT, fun H1 p1' s1 h1 => ⟨.str c, rfl, by show 1 ≤ sizeLine; decide, fun t nt => ?_⟩⟩
    rw [hcv.1] at h1
    have st := same_new nt (o := .tup [.str c])
    have ht : TA K (upd H1 t (.tup [.str c])) t [.str c] := .inl upd_same
    generalize upd H1 t (.tup [.str c]) = H2 at st ht ⊢
    refine ⟨p1', t, _, _, rfl, rfl, h1.kp (Kp.of st), ht, by rw [List.length_take, List.length_map]; show _ + 1 ≤ _; omega, fun H3 p3 s3 h3 => ?_⟩
    have s03 := s1.trans (st.trans s3)
    refine ⟨.ref i, rfl, .int (n.fmod ((ins.length : Int) + 1)), rfl, _, rfl, i, _, rfl, hT.kp (Kp.of s03), fun H4 p4 s4 h4 => ?_⟩
    rw [hcv.2] at h4
    refine ⟨p3, p4, _, _, rfl, rfl, h3.kp (Kp.of s4), h4, by rw [List.length_append, List.length_take, List.length_map, List.length_drop, List.length_map]; show _ + 1 + _ ≤ _; omega, fun H5 p5 s5 h5 => ?_⟩
    generalize (n.fmod ((ins.length : Int) + 1)).toNat = m at h5
    refine q H5 p5 (ins.take m ++ [c] ++ ins.drop m) (s03.trans (s4.trans s5)) ?_ ?_ ?_
    · rw [List.map_append, List.map_append, List.map_take, List.map_drop]; exact h5
    · rw [List.length_append, List.length_append, List.length_take, List.length_drop]; show _ + 1 + _ ≤ _; omega
    · intro x hx
      rcases List.mem_append.mp hx with hx | hx
      · rcases List.mem_append.mp hx with hx | hx
        · exact .inl (List.mem_of_mem_take hx)
        · exact .inr (List.mem_singleton.mp hx)
      · exact .inl (List.mem_of_mem_drop hx)
/-! ### _law_changed -/
def spChanged (K : PySem.W.Frag) : Sp := fun vs H Q _ => ∃ (a cA : Addr) (top st : Str) (rs : List Rw) (gs : List Int), vs = [.str top, .ref a, .ref cA, .str st] ∧ RowsAt K H a rs ∧ 1 ≤ rs.length ∧ rs.length ≤ 12 ∧ (∀ r ∈ rs, r.ins.length ≤ 12) ∧ st ∉ ks rs ∧ okS st ∧ H cA = some (.lst (gs.map V.int)) ∧ RowOf lsC gs ∧
  ∀ (H' : Hp) (t l : Addr) (top' : Str) (rs' : List Rw), Same H H' → H' t = some (.tup [.str top', .ref l]) → RowsAt K H' l rs' → rs'.length = rs.length → st ∉ ks rs' → Q (.ref t) H'
abbrev nCh : List Str := ["_law_top", "_law_rows", "_law_changes", "_law_stranger", "_law_roles", "_law_n", "_law_way", "_law_spot", "_law_at", "_law_to", "_law_kind", "_law_role", "_law_inner"]
abbrev pCh : List Str := ["_law_top", "_law_rows", "_law_changes", "_law_stranger"]
theorem scChanged : FnScope nCh pCh (defScope sChanged) := ⟨rfl, rfl, rfl, by decide +kernel, rfl, by decide +kernel, by decide +kernel⟩
theorem ok_changed {f f_put : Addr} {fd fd_put : FuncData} (B : Blt mg) (F : Fun K "_law_changed" "_law_changed" sChanged f fd)
    (F_put : Fun K "_law_put" "_law_put" sPut f_put fd_put) (b_put : Binds K fd_put ["_law_inner", "_law_at", "_law_kind"] []) (g_put : mg "_law_put" = some (.ref f_put)) : FnOk P w K mg base CX0 2 f fd pCh (spChanged K) := by
  have G_put : FnOk P w K mg base CX0 1 f_put fd_put ["_law_inner", "_law_at", "_law_kind"] (spPut K) := ok_put B F_put
  refine F.ok scChanged (fun vs H Q E h => ?_) (fun cdv A0 outer s H vs Q E hr h => ?_)
  · obtain ⟨a, cA, top, st, rs, gs, rfl, _⟩ := h; rfl
  · obtain ⟨a, cA, top, st, rs, gs, rfl, hra, hl1, hl12, hins, hst, hok, hcA, hrow, q⟩ := h
    refine ⟨_, (pss_cons (ps_set (i := 1) scChanged.nd rfl (.inl rfl) (pe_callTy call_list_of (by rfl) B.list (by decide +kernel) (pa_cons (pv 1) pa_nil)))
      (pss_cons (ps_set (i := 4) scChanged.nd rfl (.inl rfl) (pe_lst (pa_cons pe_str (pa_cons pe_str (pa_cons pe_str (pa_cons pe_str (pa_cons pe_str (pa_cons pe_str (pa_cons pe_str pa_nil)))))))))
      (pss_cons (ps_for (PassesOwn.never) rfl (pi_range1 (by rfl) B.range (pa_cons (pe_ix ix_list (pv 2) pe_int (fun _ _ => rfl)) pa_nil)) (pg_name (i := 5) scChanged.nd rfl (.inl rfl))
      (pss_cons (ps_par (i := 6) (j := 7) (by rfl) scChanged.nd rfl rfl (by decide) rfl rfl (pa_cons (pe_ix ix_list (pv 2) (pe_op op_add (pe_op op_mul pe_int (pv 5)) pe_int) (fun _ _ => rfl)) (pa_cons (pe_ix ix_list (pv 2) (pe_op op_add (pe_op op_mul pe_int (pv 5)) pe_int) (fun _ _ => rfl)) pa_nil)) (by rfl))
       (pss_cons (ps_set (i := 8) scChanged.nd rfl (.inl rfl) (pe_op op_modN (pe_callTy call_int1 (by rfl) B.int (by decide +kernel) (pa_cons (pe_ix ix_list (pv 2) (pe_op op_add (pe_op op_mul pe_int (pv 5)) pe_int) (fun _ _ => rfl)) pa_nil)) (pe_callB call_len (by rfl) B.len PySem.boot_len (pa_cons (pv 1) pa_nil))))
       (pss_cons (ps_set (i := 9) scChanged.nd rfl (.inl rfl) (pe_op op_modN (pe_callTy call_int1 (by rfl) B.int (by decide +kernel) (pa_cons (pe_ix ix_list (pv 2) (pe_op op_add (pe_op op_mul pe_int (pv 5)) pe_int) (fun _ _ => rfl)) pa_nil)) (pe_callB call_len (by rfl) B.len PySem.boot_len (pa_cons (pv 1) pa_nil))))
       (pss_cons (ps_asg (pe_ix ix_list (pv 1) (pv 8) (fun _ _ => rfl)) (pg_tup rfl (pgs_cons (pg_name (i := 10) scChanged.nd rfl (.inl rfl)) (pgs_cons (pg_name (i := 11) scChanged.nd rfl (.inl rfl)) (pgs_cons (pg_name (i := 12) scChanged.nd rfl (.inl rfl)) pgs_nil)))))
       (pss_one (ps_if (pt_cmpR op_eq (pv 6) pe_int (nomark _))
       (pss_one (ps_asg (pe_tup (pa_cons (pe_ix ix_tup (pe_ix ix_list (pv 1) (pv 9) (fun _ _ => rfl)) pe_int (fun _ _ => rfl)) (pa_cons (pv 11) (pa_cons (pv 12) pa_nil)))) (pg_sub (pv 1) (pv 8) set_list)))
       (pss_one (ps_if (pt_cmpR op_eq (pv 6) pe_int (nomark _))
        (pss_one (ps_asg (pe_tup (pa_cons (pv 10) (pa_cons (pv 11) (pa_cons (pe_call G_put hr (by rfl) g_put F_put.kp b_put .nil pass0 (pa_cons (pv 12) (pa_cons (pv 7) (pa_cons (pv 3) pa_nil)))) pa_nil)))) (pg_sub (pv 1) (pv 8) set_list)))
        (pss_one (ps_if (pt_cmpR op_eq (pv 6) pe_int (nomark _))
         (pss_one (ps_asg (pe_tup (pa_cons (pv 10) (pa_cons (pv 11) (pa_cons (pe_call G_put hr (by rfl) g_put F_put.kp b_put .nil pass0 (pa_cons (pv 12) (pa_cons (pv 7) (pa_cons (pe_ix ix_tup (pe_ix ix_list (pv 1) (pv 9) (fun _ _ => rfl)) pe_int (fun _ _ => rfl)) pa_nil)))) pa_nil)))) (pg_sub (pv 1) (pv 8) set_list)))
         (pss_one (ps_if (pt_cmpR op_eq (pv 6) pe_int (nomark _))
          (pss_one (ps_asg (pe_tup (pa_cons (pv 10) (pa_cons (pe_ix ix_list (pv 4) (pe_op op_modN (pe_callTy call_int1 (by rfl) B.int (by decide +kernel) (pa_cons (pv 7) pa_nil)) pe_int) (fun _ _ => rfl)) (pa_cons (pv 12) pa_nil)))) (pg_sub (pv 1) (pv 8) set_list)))
          (pss_one (ps_if (pt_cmpR op_eq (pv 6) pe_int (nomark _))
           (pss_one (ps_set (i := 0) scChanged.nd rfl (.inl rfl) (pe_ix ix_list (pe_lst (pa_cons (pv 3) (pa_cons (pe_ix ix_tup (pe_ix ix_list (pv 1) (pv 9) (fun _ _ => rfl)) pe_int (fun _ _ => rfl)) pa_nil))) (pe_callTy call_int1 (by rfl) B.int (by decide +kernel) (pa_cons (pe_cmpR op_gt (pv 7) pe_int (nomark _)) pa_nil)) (fun _ _ => rfl))))
           (pss_cons (ps_asg (pe_ix ix_list (pv 1) (pv 9) (fun _ _ => rfl)) (pg_sub (pv 1) (pv 8) set_list))
            (pss_one (ps_asg (pe_tup (pa_cons (pv 10) (pa_cons (pv 11) (pa_cons (pv 12) pa_nil)))) (pg_sub (pv 1) (pv 9) set_list)))))))))))))))))))
      (pss_one (ps_ret (pe_tup (pa_cons (pv 0) (pa_cons (pv 1) pa_nil)))))))), ?_⟩
    refine ⟨.ref a, rfl, a, _, rfl, .inl (SqL.of hra.1), fun l nl => ⟨by show 7 ≤ sizeLine; decide, fun RL nRL => ?_⟩⟩
    have s1 := same_new nl (o := .lst (rv rs))
    have hl0 : (upd H l (.lst (rv rs))) l = some (.lst (rv rs)) := upd_same
    have s2 := same_new nRL (o := .lst (roles.map V.str))
    have hRL0 : (upd (upd H l (.lst (rv rs))) RL (.lst (roles.map V.str))) RL = some (.lst (roles.map V.str)) := upd_same
    have nRLl : RL ≠ l := fun e => by subst e; rw [hl0] at nRL; cases nRL
    have G0 : ChG K H (upd (upd H l (.lst (rv rs))) RL (.lst (roles.map V.str))) l RL rs.length st rs 0 := ⟨s1.trans s2, s2 _ _ hl0, hRL0, rfl, fun r hr => ⟨(hra.2 r hr).kp (Kp.of (s1.trans s2)), hins r hr⟩, hst⟩
    obtain ⟨g0, a0, b0, d0⟩ := hrow.2 0 4 rfl
    obtain ⟨m, hm⟩ : ∃ m, m = rs.length := ⟨_, rfl⟩
    rw [← hm] at G0 hl1 hl12
    refine ⟨.ref cA, rfl, cA, _, 0, .int g0, rfl, rfl, SqL.of (G0.1 _ _ hcA), atI_nat (j := 0) (i_at a0), g0, rfl, by omega, by omega, ?_⟩
    refine for_range (lo := 0) (n := g0.toNat) (fun n σ H' => ∃ (top : Str) (rs : List Rw) (y5 y6 y7 y8 y9 y10 y11 y12 : Option V), σ = [some (.str top), some (.ref l), some (.ref cA), some (.str st), some (.ref RL), y5, y6, y7, y8, y9, y10, y11, y12] ∧ ChG K H H' l RL m st rs n) ⟨top, rs, _, _, _, _, _, _, _, _, rfl, G0⟩ ?_ ?_
    · clear G0 hl0 hRL0 s1 s2
      rintro n σ H' hn ⟨top, rs, y5, y6, y7, y8, y9, y10, y11, y12, rfl, G⟩
      have e0 : (0 : Int) + (n : Int) = (n : Int) := by omega
      rw [e0]
      obtain ⟨k1, k2, k3, k4⟩ := lsC_at n (by omega)
      obtain ⟨r1, e1, b1, d1⟩ := hrow.2 _ _ k1
      obtain ⟨r2, e2, b2, d2⟩ := hrow.2 _ _ k2
      obtain ⟨r3, e3, b3, d3⟩ := hrow.2 _ _ k3
      obtain ⟨r4, e4, b4, d4⟩ := hrow.2 _ _ k4
      obtain ⟨sG, hl, hRL, hrl, hrs, hsk⟩ := id G
      have hc := sG _ _ hcA
      refine ⟨.ref cA, rfl, .int (n : Int), rfl, 4, (n : Int), rfl, rfl, .inl ⟨by decide, by decide⟩, _, 1, rfl, rfl, cA, _, _, .int r1, rfl, rfl, SqL.of hc, at_of (j := 4 * n + 1) (by omega) (i_at e1), .ref cA, rfl, .int (n : Int), rfl, 4, (n : Int), rfl, rfl, .inl ⟨by decide, by decide⟩, _, 4, rfl, rfl, cA, _, _, .int r4, rfl, rfl, SqL.of hc, at_of (j := 4 * n + 4) (by omega) (i_at e4), _, _, rfl, ?_⟩
      refine ⟨.ref cA, rfl, .int (n : Int), rfl, 4, (n : Int), rfl, rfl, .inl ⟨by decide, by decide⟩, _, 2, rfl, rfl, cA, _, _, .int r2, rfl, rfl, SqL.of hc, at_of (j := 4 * n + 2) (by omega) (i_at e2), .inl ⟨_, rfl, .ref l, rfl, .ref l, m, rfl, .inl ⟨_, SqL.of hl, by rw [rv_len, hrl]⟩, r2, (m : Int), rfl, rfl, (show (m : Int) ≠ 0 by omega), ?_⟩⟩
      refine ⟨.ref cA, rfl, .int (n : Int), rfl, 4, (n : Int), rfl, rfl, .inl ⟨by decide, by decide⟩, _, 3, rfl, rfl, cA, _, _, .int r3, rfl, rfl, SqL.of hc, at_of (j := 4 * n + 3) (by omega) (i_at e3), .inl ⟨_, rfl, .ref l, rfl, .ref l, m, rfl, .inl ⟨_, SqL.of hl, by rw [rv_len, hrl]⟩, r3, (m : Int), rfl, rfl, (show (m : Int) ≠ 0 by omega), ?_⟩⟩
      have A0' : 0 ≤ r2.fmod (m : Int) := Int.fmod_nonneg_of_pos _ (by omega)
      have A1' : r2.fmod (m : Int) < (m : Int) := Int.fmod_lt_of_pos _ (by omega)
      have B0' : 0 ≤ r3.fmod (m : Int) := Int.fmod_nonneg_of_pos _ (by omega)
      have B1' : r3.fmod (m : Int) < (m : Int) := Int.fmod_lt_of_pos _ (by omega)
      dsimp only
      generalize r2.fmod (m : Int) = A at A0' A1' ⊢
      generalize r3.fmod (m : Int) = B at B0' B1' ⊢
      obtain ⟨rA, hA⟩ : ∃ rA, rs[A.toNat]? = some rA := ⟨_, List.getElem?_eq_getElem (by omega)⟩
      obtain ⟨rB, hB⟩ : ∃ rB, rs[B.toNat]? = some rB := ⟨_, List.getElem?_eq_getElem (by omega)⟩
      have mA := List.mem_of_getElem? hA
      have mB := List.mem_of_getElem? hB
      obtain ⟨⟨hAT, hAI⟩, hAl⟩ := hrs rA mA
      obtain ⟨⟨hBT, hBI⟩, hBl⟩ := hrs rB mB
      have nkA : rA.k ≠ st := fun e => hsk (List.mem_map.mpr ⟨rA, mA, e⟩)
      have nkB : rB.k ≠ st := fun e => hsk (List.mem_map.mpr ⟨rB, mB, e⟩)
      have hixA : ∀ xs : List V, xs.length = m → ixN xs.length A = some A.toNat := fun xs h => by unfold ixN; rw [if_pos A0', if_pos (by omega)]
      have hixB : ∀ xs : List V, xs.length = m → ixN xs.length B = some B.toNat := fun xs h => by unfold ixN; rw [if_pos B0', if_pos (by omega)]
      have hrvl : (rv rs).length = m := by rw [rv_len, hrl]
      refine ⟨.ref l, rfl, .int A, rfl, l, _, A, .ref rA.t, rfl, rfl, SqL.of hl, at_of (j := A.toNat) (by omega) (rv_at hA), rA.t, _, rfl, hAT.sq, rfl, _, _, rfl, _, _, rfl, _, _, rfl, rfl, ?_⟩
      refine ⟨.int r1, rfl, rfl, _, rfl, ite2 (fun _ => ?_) (fun _ => ⟨.int r1, rfl, rfl, _, rfl, ite2 (fun _ => ?_) (fun _ => ⟨.int r1, rfl, rfl, _, rfl, ite2 (fun _ => ?_) (fun _ => ⟨.int r1, rfl, rfl, _, rfl, ite2 (fun _ => ?_) (fun _ => ⟨.int r1, rfl, rfl, _, rfl, ite2 (fun _ => ?_) (fun _ => ?_)⟩)⟩)⟩)⟩)⟩
      · -- the kind of another row
        refine ⟨.ref l, rfl, .int B, rfl, l, _, B, .ref rB.t, rfl, rfl, SqL.of hl, at_of (j := B.toNat) (by omega) (rv_at hB), rB.t, _, 0, .str rB.k, rfl, rfl, hBT.sq, rfl, .str rA.r, rfl, .ref rA.i, rfl, by show 3 ≤ sizeLine; decide, fun t nt => ?_⟩
        have st' := same_new nt (o := .tup [.str rB.k, .str rA.r, .ref rA.i])
        have ht : (upd H' t (.tup [.str rB.k, .str rA.r, .ref rA.i])) t = some (.tup [.str rB.k, .str rA.r, .ref rA.i]) := upd_same
        generalize upd H' t (.tup [.str rB.k, .str rA.r, .ref rA.i]) = H8 at st' ht ⊢
        have G8 := (G.same st').next
        refine ⟨.ref l, rfl, .int A, rfl, l, _, A, A.toNat, rfl, rfl, G8.2.1, hixA _ hrvl, top, _, _, _, _, _, _, _, _, _, rfl, G8.set nl nRLl A.toNat (x := ⟨t, rB.k, rA.r, rA.i, rA.ins⟩) ⟨.inl ht, (hAI.1.kp (Kp.of st')), hAI.2.1, hAI.2.2.1, hAI.2.2.2.1, hBI.2.2.2.2⟩ (by show rA.ins.length ≤ _; omega) nkB⟩
      · -- the stranger among the inner kinds
        refine ⟨.str rA.k, rfl, .str rA.r, rfl, .ref rA.i, rfl, .int r4, rfl, .str st, rfl, rA.i, r4, st, rA.ins, rfl, hAI.1, hAI.2.1, fun H8 i' ins' s8 hT hle hme => ⟨by show 3 ≤ sizeLine; decide, fun t nt => ?_⟩⟩
        have st' := same_new nt (o := .tup [.str rA.k, .str rA.r, .ref i'])
        have ht : (upd H8 t (.tup [.str rA.k, .str rA.r, .ref i'])) t = some (.tup [.str rA.k, .str rA.r, .ref i']) := upd_same
        generalize upd H8 t (.tup [.str rA.k, .str rA.r, .ref i']) = H9 at st' ht ⊢
        have G9 := ((G.same s8).same st').next
        refine ⟨.ref l, rfl, .int A, rfl, l, _, A, A.toNat, rfl, rfl, G9.2.1, hixA _ hrvl, top, _, _, _, _, _, _, _, _, _, rfl, G9.set nl nRLl A.toNat (x := ⟨t, rA.k, rA.r, i', ins'⟩) ⟨.inl ht, hT.kp (Kp.of st'), by show ins'.length ≤ 100; omega, fun x hx => (hme x hx).elim (hAI.2.2.1 x) (fun e => by rw [e]; exact hok), hAI.2.2.2.1, hAI.2.2.2.2⟩ (by show ins'.length ≤ _; omega) nkA⟩
      · -- a kind among the inner kinds
        refine ⟨.str rA.k, rfl, .str rA.r, rfl, .ref rA.i, rfl, .int r4, rfl, .ref l, rfl, .int B, rfl, l, _, B, .ref rB.t, rfl, rfl, SqL.of hl, at_of (j := B.toNat) (by omega) (rv_at hB), rB.t, _, 0, .str rB.k, rfl, rfl, hBT.sq, rfl, rA.i, r4, rB.k, rA.ins, rfl, hAI.1, hAI.2.1, fun H8 i' ins' s8 hT hle hme => ⟨by show 3 ≤ sizeLine; decide, fun t nt => ?_⟩⟩
        have st' := same_new nt (o := .tup [.str rA.k, .str rA.r, .ref i'])
        have ht : (upd H8 t (.tup [.str rA.k, .str rA.r, .ref i'])) t = some (.tup [.str rA.k, .str rA.r, .ref i']) := upd_same
        generalize upd H8 t (.tup [.str rA.k, .str rA.r, .ref i']) = H9 at st' ht ⊢
        have G9 := ((G.same s8).same st').next
        refine ⟨.ref l, rfl, .int A, rfl, l, _, A, A.toNat, rfl, rfl, G9.2.1, hixA _ hrvl, top, _, _, _, _, _, _, _, _, _, rfl, G9.set nl nRLl A.toNat (x := ⟨t, rA.k, rA.r, i', ins'⟩) ⟨.inl ht, hT.kp (Kp.of st'), by show ins'.length ≤ 100; omega, fun x hx => (hme x hx).elim (hAI.2.2.1 x) (fun e => by rw [e]; exact hBI.2.2.2.2), hAI.2.2.2.1, hAI.2.2.2.2⟩ (by show ins'.length ≤ _; omega) nkA⟩
      · -- another role
        have f0 : 0 ≤ r4.fmod 7 := Int.fmod_nonneg_of_pos _ (by decide)
        have f1 : r4.fmod 7 < 7 := Int.fmod_lt_of_pos _ (by decide)
        have hro : (r4.fmod 7).toNat < roles.length := by show _ < 7; omega
        have hro' := List.getElem?_eq_getElem hro
        have hrm := List.getElem_mem hro
        generalize roles[(r4.fmod 7).toNat]'hro = ro at hro' hrm
        refine ⟨.str rA.k, rfl, .ref RL, rfl, .int r4, rfl, .inl ⟨_, rfl, r4, 7, rfl, rfl, (show (7 : Int) ≠ 0 by decide), RL, _, _, .str ro, rfl, rfl, SqL.of hRL, at_of (j := (r4.fmod 7).toNat) (by omega) (s_at hro'), .ref rA.i, rfl, by show 3 ≤ sizeLine; decide, fun t nt => ?_⟩⟩
        have st' := same_new nt (o := .tup [.str rA.k, .str ro, .ref rA.i])
        have ht : (upd H' t (.tup [.str rA.k, .str ro, .ref rA.i])) t = some (.tup [.str rA.k, .str ro, .ref rA.i]) := upd_same
        generalize upd H' t (.tup [.str rA.k, .str ro, .ref rA.i]) = H8 at st' ht ⊢
        have G8 := (G.same st').next
        refine ⟨.ref l, rfl, .int A, rfl, l, _, A, A.toNat, rfl, rfl, G8.2.1, hixA _ hrvl, top, _, _, _, _, _, _, _, _, _, rfl, G8.set nl nRLl A.toNat (x := ⟨t, rA.k, ro, rA.i, rA.ins⟩) ⟨.inl ht, (hAI.1.kp (Kp.of st')), hAI.2.1, hAI.2.2.1, hrm, hAI.2.2.2.2⟩ (by show rA.ins.length ≤ _; omega) nkA⟩
      · -- another root kind
        refine ⟨.str st, rfl, .ref l, rfl, .int B, rfl, l, _, B, .ref rB.t, rfl, rfl, SqL.of hl, at_of (j := B.toNat) (by omega) (rv_at hB), rB.t, _, 0, .str rB.k, rfl, rfl, hBT.sq, rfl, by show 2 ≤ sizeLine; decide, fun g ng => ⟨.int r4, rfl, r4, 2, rfl, rfl, .inr ⟨_, rfl, ?_⟩⟩⟩
        have sg := same_new ng (o := .lst [.str st, .str rB.k])
        have hg : (upd H' g (.lst [.str st, .str rB.k])) g = some (.lst [.str st, .str rB.k]) := upd_same
        generalize upd H' g (.lst [.str st, .str rB.k]) = H8 at sg hg ⊢
        have G8 := (G.same sg).next
        by_cases h2 : decide (r4 > 2) = true
        · exact ⟨g, _, 1, .str rB.k, rfl, by rw [show decide (r4 > 2) = true from h2]; rfl, SqL.of hg, atI_nat (j := 1) rfl, rB.k, rs, _, _, _, _, _, _, _, _, rfl, G8⟩
        · exact ⟨g, _, 0, .str st, rfl, by rw [show decide (r4 > 2) = false from Bool.eq_false_iff.mpr h2]; rfl, SqL.of hg, atI_nat (j := 0) rfl, st, rs, _, _, _, _, _, _, _, _, rfl, G8⟩
      · -- two rows change places
        refine ⟨.ref l, rfl, .int B, rfl, l, _, B, .ref rB.t, rfl, rfl, SqL.of hl, at_of (j := B.toNat) (by omega) (rv_at hB), .ref l, rfl, .int A, rfl, l, _, A, A.toNat, rfl, rfl, hl, hixA _ hrvl, ?_⟩
        have GA8 := G.next.set nl nRLl A.toNat (x := rB) ⟨hBT, hBI⟩ (by omega) nkB
        have kp8 : Kp H' (upd H' l (.lst ((rv rs).set A.toNat (.ref rB.t)))) := Kp.but hl (fun z => z) upd_but
        generalize upd H' l (.lst ((rv rs).set A.toNat (.ref rB.t))) = H8 at GA8 kp8 ⊢
        have hAI8 : InsV K H8 rA := hAI.kp kp8
        refine ⟨.str rA.k, rfl, .str rA.r, rfl, .ref rA.i, rfl, by show 3 ≤ sizeLine; decide, fun t nt => ?_⟩
        have st' := same_new nt (o := .tup [.str rA.k, .str rA.r, .ref rA.i])
        have ht : (upd H8 t (.tup [.str rA.k, .str rA.r, .ref rA.i])) t = some (.tup [.str rA.k, .str rA.r, .ref rA.i]) := upd_same
        generalize upd H8 t (.tup [.str rA.k, .str rA.r, .ref rA.i]) = H9 at st' ht ⊢
        have G9 := GA8.same st'
        have hl9 := G9.2.1
        exact ⟨.ref l, rfl, .int B, rfl, l, _, B, B.toNat, rfl, rfl, hl9, hixB _ (by rw [rv_len, G9.2.2.2.1]), top, _, _, _, _, _, _, _, _, _, rfl, G9.set nl nRLl B.toNat (x := ⟨t, rA.k, rA.r, rA.i, rA.ins⟩) ⟨.inl ht, hAI8.kp (Kp.of st')⟩ (by show rA.ins.length ≤ _; omega) nkA⟩
    · rintro σ H' ⟨top, rs', y5, y6, y7, y8, y9, y10, y11, y12, rfl, sG, hl, hRL, hrl, hrs, hsk⟩
      refine ⟨.str top, rfl, .ref l, rfl, by show 2 ≤ sizeLine; decide, fun t nt => ?_⟩
      have st' := same_new nt (o := .tup [.str top, .ref l])
      exact q _ t l top rs' (sG.trans st') upd_same ⟨st' _ _ hl, fun r hr => (hrs r hr).1.kp (Kp.of st')⟩ (by rw [hrl, hm]) hsk
end
end K05

set_option maxRecDepth 100000
set_option maxHeartbeats 16000000
namespace K05
open PySem PySem.Spec PyProof.Rows L2
theorem st_new {zs : List Str} {st : Str} {m : Nat} (nd : zs.Nodup) (h : zs[12]? = some st) (hm : m ≤ 12) : st ∉ zs.take m := fun hs => by
  have e := List.take_append_drop 12 zs
  rw [← e, List.nodup_append] at nd
  have h1 : st ∈ zs.take 12 := by
    have e2 : zs.take m = (zs.take 12).take m := by rw [List.take_take, Nat.min_eq_left hm]
    rw [e2] at hs
    exact List.mem_of_mem_take hs
  have h2 : st ∈ zs.drop 12 := by
    refine List.mem_of_getElem? (i := 0) ?_
    rw [List.getElem?_drop]; exact h
  exact nd.2.2 st h1 st h2 rfl
theorem usN_ok : ∀ r ∈ usN, r.ins.length ≤ 100 ∧ (∀ x ∈ r.ins, okS x) ∧ r.r ∈ roles ∧ okS r.k := by unfold okS; decide +kernel
theorem usN_nd : (ks usN).Nodup ∧ T "seen" ∉ ks usN := by decide +kernel
/-- Grammar.usual, read off the class -/
structure Sta (K : PySem.W.Frag) (C p g : Addr) : Prop where
  rd : ClX.CRead K C (.type "type")
  st : RS.CSta K C (.type "type") "usual" p g
  kp : PySem.W.keepIn K (.ref g) = true
section
variable {P : Program} {w : World} {K : PySem.W.Frag} {mg : Str → Option Value} {base : Heap}
abbrev nLaw : List Str := ["_law_script", "_law_kinds_here", "_law_many", "_law_top", "_law_rows", "_law_changes", "_law_other_top", "_law_other_rows", "_law_usual", "_law_grammar_here"]
theorem scLaw : FnScope nLaw ["_law_script"] (defScope sLaw) := ⟨rfl, rfl, rfl, by decide +kernel, rfl, by decide +kernel, by decide +kernel⟩
def spLaw (K : PySem.W.Frag) : Sp := fun vs H Q _ => ∃ (a : Addr) (ns : List Int), vs = [.ref a] ∧ SqL K H a (ns.map V.int) ∧ ns.length ≤ 63 ∧ ∀ H', Q (.bl true) H'
theorem ok_law {C CT CU CM CL CS RD UR pU fT fU fM f_chk f_init f_usual fi fl fh fg f f_cell f_row f_same f_names f_kinds f_may f_grammar f_error f_due f_tells f_asked f_put f_changed : Addr} {us : List Rw} {fdT fdU fdM fd_chk fd_init fd_usual di dl dh dg fd fd_cell fd_row fd_same fd_names fd_kinds fd_may fd_grammar fd_error fd_due fd_tells fd_asked fd_put fd_changed : FuncData}
    (B : Blt mg) (Tc : Gmr K mg C) (M : Mk K C f_init) (NT : TkE K mg CT fT fdT) (NU : UnE K mg CU fU fdU) (NM : MiE K mg CM fM fdM) (R : Ers K mg CT CU CM CL CS) (I0 : Inn K w RD) (gR : mg "INNER_ROLES" = some (.ref RD)) (U : Usu K UR us) (gU : mg "USUAL_ROWS" = some (.ref UR)) (SU : Sta K C pU f_usual)
    (O : Ops P w K mg base C CU fi fl fh fg di dl dh dg) (F : Fun K "law" "law" sLaw f fd)
    (F_chk : Fun K "_check_inner" "_check_inner" sCheckIn f_chk fd_chk) (b_chk : Binds K fd_chk ["rows"] []) (g_chk : mg "_check_inner" = some (.ref f_chk))
    (F_init : Fun K "__init__" "Grammar.__init__" sInit f_init fd_init) (b_init : Binds K fd_init pIn [])
    (F_usual : Fun K "usual" "Grammar.usual" sUsual f_usual fd_usual) (b_usual : Binds K fd_usual [] [])
    (F_cell : Fun K "_law_cell" "_law_cell" sCell f_cell fd_cell) (b_cell : Binds K fd_cell ["_law_script", "_law_k"] []) (g_cell : mg "_law_cell" = some (.ref f_cell))
    (F_row : Fun K "_law_row" "_law_row" sRow f_row fd_row) (b_row : Binds K fd_row ["_law_cell_here", "_law_limits"] []) (g_row : mg "_law_row" = some (.ref f_row))
    (F_same : Fun K "_law_same" "_law_same" sSame f_same fd_same) (b_same : Binds K fd_same ["_law_one", "_law_two"] []) (g_same : mg "_law_same" = some (.ref f_same))
    (F_names : Fun K "_law_names" "_law_names" sNames f_names fd_names) (b_names : Binds K fd_names ["_law_cell_here", "_law_many"] []) (g_names : mg "_law_names" = some (.ref f_names))
    (F_kinds : Fun K "_law_kinds" "_law_kinds" sKinds f_kinds fd_kinds) (b_kinds : Binds K fd_kinds ["_law_cell_here", "_law_many"] []) (g_kinds : mg "_law_kinds" = some (.ref f_kinds))
    (F_may : Fun K "_law_may" "_law_may" sMay f_may fd_may) (b_may : Binds K fd_may ["_law_outer", "_law_inner"] []) (g_may : mg "_law_may" = some (.ref f_may))
    (F_grammar : Fun K "_law_grammar" "_law_grammar" sGrammar f_grammar fd_grammar) (b_grammar : Binds K fd_grammar ["_law_cell_here", "_law_kinds_here"] []) (g_grammar : mg "_law_grammar" = some (.ref f_grammar))
    (F_error : Fun K "_law_error" "_law_error" sError f_error fd_error) (b_error : Binds K fd_error ["_law_e"] []) (g_error : mg "_law_error" = some (.ref f_error))
    (F_due : Fun K "_law_due" "_law_due" sDue f_due fd_due) (b_due : Binds K fd_due ["_law_top", "_law_rows"] []) (g_due : mg "_law_due" = some (.ref f_due))
    (F_tells : Fun K "_law_tells" "_law_tells" sTells f_tells fd_tells) (b_tells : Binds K fd_tells pTe []) (g_tells : mg "_law_tells" = some (.ref f_tells))
    (F_asked : Fun K "_law_asked" "_law_asked" sAsked f_asked fd_asked) (b_asked : Binds K fd_asked pAs []) (g_asked : mg "_law_asked" = some (.ref f_asked))
    (F_put : Fun K "_law_put" "_law_put" sPut f_put fd_put) (b_put : Binds K fd_put ["_law_inner", "_law_at", "_law_kind"] []) (g_put : mg "_law_put" = some (.ref f_put))
    (F_changed : Fun K "_law_changed" "_law_changed" sChanged f_changed fd_changed) (b_changed : Binds K fd_changed pCh []) (g_changed : mg "_law_changed" = some (.ref f_changed)) :
    FnOk P w K mg base CX0 7 f fd ["_law_script"] (spLaw K) := by
  have G_chk : FnOk P w K mg base (L2N.CX P w) 3 f_chk fd_chk ["rows"] (spChk K CT CU CM) := ok_chk NU NM I0 gR F_chk
  have G_init : FnOk P w K mg base (L2N.CX P w) 4 f_init fd_init pIn (spInit K C CT CU CM) := ok_ginit B Tc NT NU NM F_init F_chk b_chk g_chk G_chk
  have G_usual : FnOk P w K mg base CX0 6 f_usual fd_usual [] (spUsual K C us) := ok_usual B Tc M U gU F_usual G_init b_init
  have G_cell : FnOk P w K mg base CX0 1 f_cell fd_cell ["_law_script", "_law_k"] (spCell K) := ok_cell B F_cell
  have G_row : FnOk P w K mg base CX0 1 f_row fd_row ["_law_cell_here", "_law_limits"] (spRow K) := ok_row B F_row
  have G_kinds : FnOk P w K mg base CX0 3 f_kinds fd_kinds ["_law_cell_here", "_law_many"] spKinds := ok_kinds B F_kinds F_names b_names g_names F_row b_row g_row
  have G_grammar : FnOk P w K mg base CX0 2 f_grammar fd_grammar ["_law_cell_here", "_law_kinds_here"] (spGrammar K) := ok_grammar B F_grammar F_may b_may g_may F_row b_row g_row
  have G_tells : FnOk P w K mg base CX0 5 f_tells fd_tells pTe (spTells K C) := ok_tells B Tc R O F_tells F_same b_same g_same F_error b_error g_error
  have G_asked : FnOk P w K mg base CX0 6 f_asked fd_asked pAs (spAsked K) := ok_asked B Tc M R F_asked G_init b_init F_same b_same g_same F_error b_error g_error F_may b_may g_may F_due b_due g_due F_tells b_tells g_tells G_tells
  have G_changed : FnOk P w K mg base CX0 2 f_changed fd_changed pCh (spChanged K) := ok_changed B F_changed F_put b_put g_put
  refine F.ok scLaw (fun vs H Q E h => ?_) (fun cdv A0 outer s H vs Q E hr h => ?_)
  · obtain ⟨a, ns, rfl, _⟩ := h; rfl
  · obtain ⟨a, ns, rfl, hS, hns, q⟩ := h
    have hr1 : Room 1 _ := hr.mono (by decide)
    have hr2 : Room 2 _ := hr.mono (by decide)
    have hr3 : Room 3 _ := hr.mono (by decide)
    have hr5 : Room 5 _ := hr.mono (by decide)
    refine ⟨_, (pss_cons (ps_set (i := 1) scLaw.nd rfl (.inl rfl) (pe_call G_kinds hr3 (by rfl) g_kinds F_kinds.kp b_kinds .nil pass0 (pa_cons (pe_call G_cell hr1 (by rfl) g_cell F_cell.kp b_cell .nil pass0 (pa_cons (pv 0) (pa_cons pe_int pa_nil))) (pa_cons pe_int pa_nil))))
      (pss_cons (ps_set (i := 2) scLaw.nd rfl (.inl rfl) (pe_op op_add pe_int (pe_op op_modN (pe_callTy call_int1 (by rfl) B.int (by decide +kernel) (pa_cons (pe_call G_cell hr1 (by rfl) g_cell F_cell.kp b_cell .nil pass0 (pa_cons (pv 0) (pa_cons pe_int pa_nil))) pa_nil)) pe_int)))
      (pss_cons (ps_asg (pe_call G_grammar hr2 (by rfl) g_grammar F_grammar.kp b_grammar .nil pass0 (pa_cons (pe_call G_cell hr1 (by rfl) g_cell F_cell.kp b_cell .nil pass0 (pa_cons (pv 0) (pa_cons pe_int pa_nil))) (pa_cons (pe_slice sl_list (pv 1) po_none (po_some (pv 2))) pa_nil))) (pg_tup rfl (pgs_cons (pg_name (i := 3) scLaw.nd rfl (.inl rfl)) (pgs_cons (pg_name (i := 4) scLaw.nd rfl (.inl rfl)) pgs_nil))))
      (pss_cons (ps_set (i := 5) scLaw.nd rfl (.inl rfl) (pe_call G_row hr1 (by rfl) g_row F_row.kp b_row .nil pass0 (pa_cons (pe_call G_cell hr1 (by rfl) g_cell F_cell.kp b_cell .nil pass0 (pa_cons (pv 0) (pa_cons pe_int pa_nil))) (pa_cons (pe_op op_cat (pe_lst (pa_cons pe_int pa_nil)) (pe_op op_rep (pe_lst (pa_cons pe_int (pa_cons pe_int (pa_cons pe_int (pa_cons pe_int pa_nil))))) pe_int)) pa_nil))))
      (pss_cons (ps_asg (pe_call G_changed hr2 (by rfl) g_changed F_changed.kp b_changed .nil pass0 (pa_cons (pv 3) (pa_cons (pv 4) (pa_cons (pv 5) (pa_cons (pe_ix ix_list (pv 1) pe_int (fun _ _ => rfl)) pa_nil))))) (pg_tup rfl (pgs_cons (pg_name (i := 6) scLaw.nd rfl (.inl rfl)) (pgs_cons (pg_name (i := 7) scLaw.nd rfl (.inl rfl)) pgs_nil))))
      (pss_cons (ps_set (i := 8) scLaw.nd rfl (.inl rfl) (pe_lst (pa_cons (pe_tup (pa_cons pe_str (pa_cons pe_str (pa_cons (pe_tup (pa_cons pe_str (pa_cons pe_str pa_nil))) pa_nil)))) (pa_cons (pe_tup (pa_cons pe_str (pa_cons pe_str (pa_cons (pe_tup (pa_cons pe_str (pa_cons pe_str pa_nil))) pa_nil)))) (pa_cons (pe_tup (pa_cons pe_str (pa_cons pe_str (pa_cons (pe_tup (pa_cons pe_str (pa_cons pe_str (pa_cons pe_str (pa_cons pe_str pa_nil))))) pa_nil)))) (pa_cons (pe_tup (pa_cons pe_str (pa_cons pe_str (pa_cons (pe_tup (pa_cons pe_str (pa_cons pe_str pa_nil))) pa_nil)))) (pa_cons (pe_tup (pa_cons pe_str (pa_cons pe_str (pa_cons (pe_tup (pa_cons pe_str pa_nil)) pa_nil)))) (pa_cons (pe_tup (pa_cons pe_str (pa_cons pe_str (pa_cons (pe_tup (pa_cons pe_str pa_nil)) pa_nil)))) (pa_cons (pe_tup (pa_cons pe_str (pa_cons pe_str (pa_cons (pe_tup pa_nil) pa_nil)))) pa_nil)))))))))
      (pss_cons (ps_set (i := 9) scLaw.nd rfl (.inl rfl) (pe_make M G_init hr5 (by rfl) Tc.mgC b_init .nil passNN (pa_cons (pv 3) (pa_cons (pe_callTy call_list_of (by rfl) B.list (by decide +kernel) (pa_cons (pv 4) pa_nil)) pa_nil))))
      (pss_cons (ps_if (PW.pt (pw_or (pt_not (pt_val (pe_call G_tells hr5 (by rfl) g_tells F_tells.kp b_tells .nil pass0 (pa_cons (pv 9) (pa_cons (pv 3) (pa_cons (pv 4) (pa_cons (pe_ix ix_list (pv 1) pe_int (fun _ _ => rfl)) pa_nil))))))) (pw_or1 (pt_not (pt_val (pe_call G_asked hr (by rfl) g_asked F_asked.kp b_asked .nil pass0 (pa_cons (pv 6) (pa_cons (pv 7) (pa_cons (pe_ix ix_list (pv 1) pe_int (fun _ _ => rfl)) pa_nil)))))))))
      (pss_one (ps_ret pe_bl))
      pss_nil)
      (pss_cons (ps_if (PW.pt (pw_or (pt_not (pt_val (pe_call G_tells hr5 (by rfl) g_tells F_tells.kp b_tells .nil pass0 (pa_cons (RS.pe_smeth0 (pe_glob (v := .ref C) (by rfl) Tc.mgC rfl) SU.rd SU.st G_usual hr SU.kp b_usual .nil pass0) (pa_cons pe_str (pa_cons (pv 8) (pa_cons pe_str pa_nil))))))) (pw_or1 (pt_not (pt_val (pe_call G_asked hr (by rfl) g_asked F_asked.kp b_asked .nil pass0 (pa_cons (pv 3) (pa_cons (pv 4) (pa_cons (pe_ix ix_list (pv 1) pe_int (fun _ _ => rfl)) pa_nil)))))))))
      (pss_one (ps_ret pe_bl))
      pss_nil)
      (pss_one (ps_ret (pe_call G_tells hr5 (by rfl) g_tells F_tells.kp b_tells .nil pass0 (pa_cons (pv 9) (pa_cons (pv 3) (pa_cons (pv 4) (pa_cons (pe_ix ix_list (pv 1) pe_int (fun _ _ => rfl)) pa_nil)))))))))))))))), ?_⟩
    have S00 := Same.refl H
    refine ⟨.ref a, rfl, a, ns, 1, rfl, S00.seq hS, hns, by decide, by decide, fun H1 c1 s1 => ⟨c1, rfl, fun H2 kA zs s2 nk hk hzl hnd hok => ?_⟩⟩
    have S02 := s1.trans s2
    refine ⟨.ref a, rfl, a, ns, 3, rfl, S02.seq hS, hns, by decide, by decide, fun H3 c3 s3 => .inl ⟨c3, rfl, c3, 12, rfl, rfl, (show (12 : Int) ≠ 0 by decide), 1, _, rfl, rfl, ?_⟩⟩
    have S03 := S02.trans s3
    have hk := s3 _ _ hk
    have m0 : 0 ≤ c3.fmod 12 := Int.fmod_nonneg_of_pos _ (by decide)
    have m1 : c3.fmod 12 < 12 := Int.fmod_lt_of_pos _ (by decide)
    obtain ⟨m, hm⟩ : ∃ m : Nat, m = (1 + c3.fmod 12).toNat := ⟨_, rfl⟩
    have hmM : 1 + c3.fmod 12 = (m : Int) := by omega
    have hm1 : 1 ≤ m := by omega
    have hm12 : m ≤ 12 := by omega
    refine ⟨.ref a, rfl, a, ns, 0, rfl, S03.seq hS, hns, by decide, by decide, fun H4 c4 s4 => ⟨.ref kA, rfl, .int (1 + c3.fmod 12), rfl, _, rfl, kA, _, rfl, SqL.of (s4 _ _ hk), fun g ng => ?_⟩⟩
    rw [hmM, (cutV_at (zs.map V.str) (m := m) (by rw [List.length_map]; omega)).1]
    have S04 := S03.trans s4
    have hk := s4 _ _ hk
    have sg := same_new ng (o := .lst ((zs.map V.str).take m))
    have hg : (upd H4 g (.lst ((zs.map V.str).take m))) g = some (.lst ((zs.take m).map V.str)) := by rw [upd_same, List.map_take]
    generalize upd H4 g (.lst ((zs.map V.str).take m)) = H5 at sg hg ⊢
    have S05 := S04.trans sg
    have hk := sg _ _ hk
    obtain ⟨st, hst12⟩ : ∃ st, zs[12]? = some st := ⟨_, List.getElem?_eq_getElem (by omega)⟩
    have hstz := st_new hnd hst12 hm12
    have hsto := hok st (List.mem_of_getElem? hst12)
    have htl : (zs.take m).length = m := by rw [List.length_take]; omega
    refine ⟨c4, g, zs.take m, rfl, hg, by omega, by omega, hnd.sublist (List.take_sublist _ _), fun z hz => hok z (List.mem_of_mem_take hz), fun H6 t l top rs s6 ht hra hks hins htop hgood => ?_⟩
    have S06 := S05.trans s6
    have hk := s6 _ _ hk
    have hrl : rs.length = m := by have := congrArg List.length hks; rw [List.length_map, htl] at this; exact this
    have hstr : st ∉ ks rs := by rw [hks]; exact hstz
    refine ⟨t, _, rfl, SqT.of ht, rfl, _, _, rfl, _, _, rfl, rfl, ?_⟩
    refine ⟨.ref a, rfl, a, ns, 2, rfl, S06.seq hS, hns, by decide, by decide, fun H7 c7 s7 => ⟨by show 1 ≤ sizeLine; decide, fun l1 n1 => ⟨by show 4 ≤ sizeLine; decide, fun l2 n2 => ⟨l2, 3, _, rfl, rfl, upd_same, by decide, by decide, (by show 12 ≤ sizeLine; decide), fun l3 n3 => ?_⟩⟩⟩⟩
    have q1 := same_new n1 (o := .lst [.int 4])
    have q2 := same_new n2 (o := .lst [.int 6, .int 12, .int 12, .int 12])
    have q3 := same_new n3 (o := .lst (List.replicate (3 : Int).toNat [V.int 6, .int 12, .int 12, .int 12]).flatten)
    refine ⟨l1, l3, _, _, rfl, rfl, q3 _ _ (q2 _ _ upd_same), upd_same, (by show 13 ≤ sizeLine; decide), fun l4 n4 => ?_⟩
    have q4 := same_new n4 (o := .lst ([.int 4] ++ (List.replicate (3 : Int).toNat [V.int 6, .int 12, .int 12, .int 12]).flatten))
    have q14 := q1.trans (q2.trans (q3.trans q4))
    refine ⟨c7, l4, lsC, rfl, SqL.of (by rw [upd_same]; rfl), by decide, by decide +kernel, fun H8 cA gs s8 nc hc hrow => ?_⟩
    have s68 := s7.trans (q14.trans s8)
    clear q1 q2 q3 q4 q14 s8 s7
    have S08 := S06.trans s68
    have hk := s68 _ _ hk
    have hra := hra.same s68
    refine ⟨.str top, rfl, .ref l, rfl, .ref cA, rfl, .ref kA, rfl, kA, _, 12, .str st, rfl, rfl, SqL.of (Same.refl _ _ _ hk), atI_nat (j := 12) (s_at hst12), l, cA, top, st, rs, gs, rfl, hra, by omega, by omega, hins, hstr, hsto, hc, hrow, fun J0 t2 l2' top2 rs2 s9 ht2 hra2 hrl2 hst2 => ?_⟩
    have S09 := S08.trans s9
    have hk := s9 _ _ hk
    have hra := hra.same s9
    refine ⟨t2, _, rfl, SqT.of ht2, rfl, _, _, rfl, _, _, rfl, rfl, ?_⟩
    refine ⟨by show 2 ≤ sizeLine; decide, fun i0 ni0 => ?_⟩
    have S1 := same_new ni0 (o := .tup [.str (T "head"), .str (T "par")])
    have hi0 : (upd J0 i0 (.tup [.str (T "head"), .str (T "par")])) i0 = some (.tup ([T "head", T "par"].map V.str)) := upd_same
    generalize upd J0 i0 (.tup [.str (T "head"), .str (T "par")]) = J1 at S1 hi0 ⊢
    refine ⟨by show 3 ≤ sizeLine; decide, fun t0 nt0 => ?_⟩
    have S2 := same_new nt0 (o := .tup [.str (T "doc"), .str (T "root"), .ref i0])
    have ht0 : (upd J1 t0 (.tup [.str (T "doc"), .str (T "root"), .ref i0])) t0 = some (.tup [.str (T "doc"), .str (T "root"), .ref i0]) := upd_same
    generalize upd J1 t0 (.tup [.str (T "doc"), .str (T "root"), .ref i0]) = J2 at S2 ht0 ⊢
    refine ⟨by show 2 ≤ sizeLine; decide, fun i1 ni1 => ?_⟩
    have S3 := same_new ni1 (o := .tup [.str (T "em"), .str (T "see")])
    have hi1 : (upd J2 i1 (.tup [.str (T "em"), .str (T "see")])) i1 = some (.tup ([T "em", T "see"].map V.str)) := upd_same
    generalize upd J2 i1 (.tup [.str (T "em"), .str (T "see")]) = J3 at S3 hi1 ⊢
    refine ⟨by show 3 ≤ sizeLine; decide, fun t1 nt1 => ?_⟩
    have S4 := same_new nt1 (o := .tup [.str (T "head"), .str (T "head"), .ref i1])
    have ht1 : (upd J3 t1 (.tup [.str (T "head"), .str (T "head"), .ref i1])) t1 = some (.tup [.str (T "head"), .str (T "head"), .ref i1]) := upd_same
    generalize upd J3 t1 (.tup [.str (T "head"), .str (T "head"), .ref i1]) = J4 at S4 ht1 ⊢
    refine ⟨by show 4 ≤ sizeLine; decide, fun i2 ni2 => ?_⟩
    have S5 := same_new ni2 (o := .tup [.str (T "em"), .str (T "note"), .str (T "fig"), .str (T "see")])
    have hi2 : (upd J4 i2 (.tup [.str (T "em"), .str (T "note"), .str (T "fig"), .str (T "see")])) i2 = some (.tup ([T "em", T "note", T "fig", T "see"].map V.str)) := upd_same
    generalize upd J4 i2 (.tup [.str (T "em"), .str (T "note"), .str (T "fig"), .str (T "see")]) = J5 at S5 hi2 ⊢
    refine ⟨by show 3 ≤ sizeLine; decide, fun t2 nt2 => ?_⟩
    have S6 := same_new nt2 (o := .tup [.str (T "par"), .str (T "block"), .ref i2])
    have ht2 : (upd J5 t2 (.tup [.str (T "par"), .str (T "block"), .ref i2])) t2 = some (.tup [.str (T "par"), .str (T "block"), .ref i2]) := upd_same
    generalize upd J5 t2 (.tup [.str (T "par"), .str (T "block"), .ref i2]) = J6 at S6 ht2 ⊢
    refine ⟨by show 2 ≤ sizeLine; decide, fun i3 ni3 => ?_⟩
    have S7 := same_new ni3 (o := .tup [.str (T "em"), .str (T "see")])
    have hi3 : (upd J6 i3 (.tup [.str (T "em"), .str (T "see")])) i3 = some (.tup ([T "em", T "see"].map V.str)) := upd_same
    generalize upd J6 i3 (.tup [.str (T "em"), .str (T "see")]) = J7 at S7 hi3 ⊢
    refine ⟨by show 3 ≤ sizeLine; decide, fun t3 nt3 => ?_⟩
    have S8 := same_new nt3 (o := .tup [.str (T "em"), .str (T "span"), .ref i3])
    have ht3 : (upd J7 t3 (.tup [.str (T "em"), .str (T "span"), .ref i3])) t3 = some (.tup [.str (T "em"), .str (T "span"), .ref i3]) := upd_same
    generalize upd J7 t3 (.tup [.str (T "em"), .str (T "span"), .ref i3]) = J8 at S8 ht3 ⊢
    refine ⟨by show 1 ≤ sizeLine; decide, fun i4 ni4 => ?_⟩
    have S9 := same_new ni4 (o := .tup [.str (T "em")])
    have hi4 : (upd J8 i4 (.tup [.str (T "em")])) i4 = some (.tup ([T "em"].map V.str)) := upd_same
    generalize upd J8 i4 (.tup [.str (T "em")]) = J9 at S9 hi4 ⊢
    refine ⟨by show 3 ≤ sizeLine; decide, fun t4 nt4 => ?_⟩
    have S10 := same_new nt4 (o := .tup [.str (T "note"), .str (T "note"), .ref i4])
    have ht4 : (upd J9 t4 (.tup [.str (T "note"), .str (T "note"), .ref i4])) t4 = some (.tup [.str (T "note"), .str (T "note"), .ref i4]) := upd_same
    generalize upd J9 t4 (.tup [.str (T "note"), .str (T "note"), .ref i4]) = J10 at S10 ht4 ⊢
    refine ⟨by show 1 ≤ sizeLine; decide, fun i5 ni5 => ?_⟩
    have S11 := same_new ni5 (o := .tup [.str (T "em")])
    have hi5 : (upd J10 i5 (.tup [.str (T "em")])) i5 = some (.tup ([T "em"].map V.str)) := upd_same
    generalize upd J10 i5 (.tup [.str (T "em")]) = J11 at S11 hi5 ⊢
    refine ⟨by show 3 ≤ sizeLine; decide, fun t5 nt5 => ?_⟩
    have S12 := same_new nt5 (o := .tup [.str (T "fig"), .str (T "figure"), .ref i5])
    have ht5 : (upd J11 t5 (.tup [.str (T "fig"), .str (T "figure"), .ref i5])) t5 = some (.tup [.str (T "fig"), .str (T "figure"), .ref i5]) := upd_same
    generalize upd J11 t5 (.tup [.str (T "fig"), .str (T "figure"), .ref i5]) = J12 at S12 ht5 ⊢
    refine ⟨Nat.zero_le _, fun i6 ni6 => ?_⟩
    have S13 := same_new ni6 (o := .tup [])
    have hi6 : (upd J12 i6 (.tup [])) i6 = some (.tup ([].map V.str)) := upd_same
    generalize upd J12 i6 (.tup []) = J13 at S13 hi6 ⊢
    refine ⟨by show 3 ≤ sizeLine; decide, fun t6 nt6 => ?_⟩
    have S14 := same_new nt6 (o := .tup [.str (T "see"), .str (T "ref"), .ref i6])
    have ht6 : (upd J13 t6 (.tup [.str (T "see"), .str (T "ref"), .ref i6])) t6 = some (.tup [.str (T "see"), .str (T "ref"), .ref i6]) := upd_same
    generalize upd J13 t6 (.tup [.str (T "see"), .str (T "ref"), .ref i6]) = J14 at S14 ht6 ⊢
    refine ⟨by show 7 ≤ sizeLine; decide, fun lu nlu => ?_⟩
    obtain ⟨usL, husL⟩ : ∃ usL : List Rw, usL = [⟨t0, T "doc", T "root", i0, [T "head", T "par"]⟩, ⟨t1, T "head", T "head", i1, [T "em", T "see"]⟩, ⟨t2, T "par", T "block", i2, [T "em", T "note", T "fig", T "see"]⟩, ⟨t3, T "em", T "span", i3, [T "em", T "see"]⟩, ⟨t4, T "note", T "note", i4, [T "em"]⟩, ⟨t5, T "fig", T "figure", i5, [T "em"]⟩, ⟨t6, T "see", T "ref", i6, []⟩] := ⟨_, rfl⟩
    have S15 := same_new nlu (o := .lst [.ref t0, .ref t1, .ref t2, .ref t3, .ref t4, .ref t5, .ref t6])
    have hlu : (upd J14 lu (.lst [.ref t0, .ref t1, .ref t2, .ref t3, .ref t4, .ref t5, .ref t6])) lu = some (.lst (rv usL)) := by rw [upd_same, husL]; rfl
    generalize upd J14 lu (.lst [.ref t0, .ref t1, .ref t2, .ref t3, .ref t4, .ref t5, .ref t6]) = J15 at S15 hlu ⊢
    have E15 := Same.refl J15
    have E14 := S15.trans E15
    have E13 := S14.trans E14
    have E12 := S13.trans E13
    have E11 := S12.trans E12
    have E10 := S11.trans E11
    have E9 := S10.trans E10
    have E8 := S9.trans E9
    have E7 := S8.trans E8
    have E6 := S7.trans E7
    have E5 := S6.trans E6
    have E4 := S5.trans E5
    have E3 := S4.trans E4
    have E2 := S3.trans E3
    have E1 := S2.trans E2
    have E0 := S1.trans E1
    have husA : RowsAt K J15 lu usL := ⟨hlu, fun r hr => by
      rw [husL] at hr
      simp only [List.mem_cons, List.not_mem_nil, or_false] at hr
      rcases hr with rfl | rfl | rfl | rfl | rfl | rfl | rfl
      · exact ⟨.inl (E2 _ _ ht0), .inl (E1 _ _ hi0), usN_ok ⟨0, T "doc", T "root", 0, [T "head", T "par"]⟩ (List.mem_cons_self)⟩
      · exact ⟨.inl (E4 _ _ ht1), .inl (E3 _ _ hi1), usN_ok ⟨0, T "head", T "head", 0, [T "em", T "see"]⟩ ((List.mem_cons_of_mem _ List.mem_cons_self))⟩
      · exact ⟨.inl (E6 _ _ ht2), .inl (E5 _ _ hi2), usN_ok ⟨0, T "par", T "block", 0, [T "em", T "note", T "fig", T "see"]⟩ ((List.mem_cons_of_mem _ (List.mem_cons_of_mem _ List.mem_cons_self)))⟩
      · exact ⟨.inl (E8 _ _ ht3), .inl (E7 _ _ hi3), usN_ok ⟨0, T "em", T "span", 0, [T "em", T "see"]⟩ ((List.mem_cons_of_mem _ (List.mem_cons_of_mem _ (List.mem_cons_of_mem _ List.mem_cons_self))))⟩
      · exact ⟨.inl (E10 _ _ ht4), .inl (E9 _ _ hi4), usN_ok ⟨0, T "note", T "note", 0, [T "em"]⟩ ((List.mem_cons_of_mem _ (List.mem_cons_of_mem _ (List.mem_cons_of_mem _ (List.mem_cons_of_mem _ List.mem_cons_self)))))⟩
      · exact ⟨.inl (E12 _ _ ht5), .inl (E11 _ _ hi5), usN_ok ⟨0, T "fig", T "figure", 0, [T "em"]⟩ ((List.mem_cons_of_mem _ (List.mem_cons_of_mem _ (List.mem_cons_of_mem _ (List.mem_cons_of_mem _ (List.mem_cons_of_mem _ List.mem_cons_self))))))⟩
      · exact ⟨.inl (E14 _ _ ht6), .inl (E13 _ _ hi6), usN_ok ⟨0, T "see", T "ref", 0, []⟩ ((List.mem_cons_of_mem _ (List.mem_cons_of_mem _ (List.mem_cons_of_mem _ (List.mem_cons_of_mem _ (List.mem_cons_of_mem _ (List.mem_cons_of_mem _ List.mem_cons_self)))))))⟩
      ⟩
    have husN : usL.map norm = usN := by rw [husL]; rfl
    clear hi0 ht0 hi1 ht1 hi2 ht2 hi3 ht3 hi4 ht4 hi5 ht5 hi6 ht6 husL E1 E2 E3 E4 E5 E6 E7 E8 E9 E10 E11 E12 E13 E14 E15
    have hk := E0 _ _ hk
    have hra := hra.same E0
    have hra2 := hra2.same E0
    clear E0
    -- the grammar
    refine ⟨.str top, rfl, .ref l, rfl, l, _, rfl, .inl (SqL.of hra.1), fun pl npl => ?_⟩
    have sp := same_new npl (o := .lst (rv rs))
    have hpl : (upd J15 pl (.lst (rv rs))) pl = some (.lst (rv rs)) := upd_same
    generalize upd J15 pl (.lst (rv rs)) = J16 at sp hpl ⊢
    refine fun p dx np ndx hne => ?_
    have sM : Same J16 (upd (upd J16 dx (.own p)) p (.ins C dx [])) := made_up np ndx
    refine ⟨p, dx, pl, top, rs, rfl, upd_same, ⟨sM _ _ hpl, ((hra.same sp).same sM).2⟩, by omega, (fun hb => by rw [hgood] at hb; cases hb), fun _ J17 hkp hF => ⟨rfl, ?_⟩⟩
    have s17 := sp.trans (made_same np ndx hkp)
    have hk := s17 _ _ hk
    have hra := hra.same s17
    have hra2 := hra2.same s17
    have husA := husA.same s17
    have hndr : (ks rs).Nodup := due_nodup hgood
    refine ⟨.ref p, rfl, .str top, rfl, .ref l, rfl, .ref kA, rfl, kA, _, 12, .str st, rfl, rfl, SqL.of (Same.refl _ _ _ hk), atI_nat (j := 12) (s_at hst12), p, l, top, st, rs, rfl, ⟨rs, hF, rfl⟩, hra, by omega, by omega, hndr, hstr, fun J18 s18 => ⟨true, rfl, iteF ?_⟩⟩
    refine ⟨.str top2, rfl, .ref l2', rfl, .ref kA, rfl, kA, _, 12, .str st, rfl, rfl, SqL.of (s18 _ _ hk), atI_nat (j := 12) (s_at hst12), l2', top2, st, rs2, rfl, hra2.same s18, by omega, by omega, hst2, fun J19 s19 => ⟨true, rfl, iteF ?_⟩⟩
    have s20 := s18.trans s19
    refine ⟨rfl, rfl, fun J20 pu s21 hFu => ?_⟩
    have s22 := s20.trans s21
    refine ⟨.ref lu, rfl, pu, lu, T "doc", T "seen", usL, rfl, ⟨us, hFu, by rw [U.nm, husN]⟩, husA.same s22, ?_, ?_, ?_, ?_, fun J21 s23 => ⟨true, rfl, iteF ?_⟩⟩
    · have := congrArg List.length husN; rw [List.length_map] at this; rw [this]; decide
    · have := congrArg List.length husN; rw [List.length_map] at this; rw [this]; decide
    · rw [← ks_norm, husN]; exact usN_nd.1
    · rw [← ks_norm, husN]; exact usN_nd.2
    have s24 := s22.trans s23
    refine ⟨.str top, rfl, .ref l, rfl, .ref kA, rfl, kA, _, 12, .str st, rfl, rfl, SqL.of (s24 _ _ hk), atI_nat (j := 12) (s_at hst12), l, top, st, rs, rfl, hra.same s24, by omega, by omega, hstr, fun J22 s25 => ⟨true, rfl, iteF ?_⟩⟩
    have s26 := s24.trans s25
    exact ⟨.ref p, rfl, .str top, rfl, .ref l, rfl, .ref kA, rfl, kA, _, 12, .str st, rfl, rfl, SqL.of (s26 _ _ hk), atI_nat (j := 12) (s_at hst12), p, l, top, st, rs, rfl, ⟨rs, hF.same s26, rfl⟩, hra.same s26, by omega, by omega, hndr, hstr, fun J23 _ => q J23⟩
end
end K05

set_option maxRecDepth 100000
set_option maxHeartbeats 4000000
namespace K05
open PySem PySem.Spec PyProof.Rows L2
/-- INNER_ROLES by its rows -/
def tbl : List (Str × List Str) := [(T "root", [T "block", T "head"]), (T "block", [T "span", T "note", T "figure", T "ref"]), (T "head", [T "span", T "ref"]), (T "span", [T "span", T "ref"]), (T "note", [T "span"]), (T "figure", [T "span"]), (T "ref", [])]
theorem tbl_ok : ∀ r ∈ roles, (r, inner r) ∈ tbl := by decide +kernel
theorem inn_mk {K : PySem.W.Frag} {w : World} {RD : Addr} {es : Array DictEntry} {n : Nat} (hd : KDict K w RD es n)
    (h : ∀ x ∈ tbl, ∃ (a : Addr) (o : Obj) (its : Array Value) (n : Nat), PySem.W.nsIn K RD x.1 = some (some (.ref a)) ∧ K.lookup a = some o ∧ o.cls = .type "tuple" ∧ o.data = .seq its n ∧ its.size ≤ sizeLine ∧ Vals (x.2.map V.str) its.toList) : Inn K w RD :=
  ⟨⟨es, n, hd⟩, fun r hr => h _ (tbl_ok r hr)⟩
end K05

set_option maxRecDepth 100000
set_option maxHeartbeats 4000000
namespace K05
open PySem PySem.Spec PyProof.Rows L2
theorem all_mk {l : PySem.W.OpenLaw} {w : World} {K : PySem.W.Frag} {h : Heap} {mg : Str → Option Value} {fa C CT CU CM CL CS RD UR f1 f2 f3 f4 f5 f6 f7 f8 f9 f10 f11 f12 f13 f14 f15 f16 f17 f18 f19 f20 f21 f22 f23 : Addr} (X : K.In h) (G : h.Ns mainGlobals mg) (hfa : mg "law" = some (.ref fa))
    {od1 an1 od2 an2 od3 an3 od4 an4 od5 an5 od6 an6 od7 an7 od8 an8 od9 an9 od10 an10 od11 an11 od12 an12 od13 an13 od14 an14 od15 an15 od16 an16 od17 an17 od18 an18 od19 an19 od20 an20 od21 an21 od22 an22 od23 an23 : Option Addr} {sl1 sl2 sl3 sl4 sl5 sl6 sl7 sl8 sl9 sl10 sl11 sl12 sl13 sl14 sl15 sl16 sl17 sl18 sl19 sl20 sl21 sl22 sl23 : Array (Option Value)}
    {oc1 kV1 dc1 pm1 cd1 ct1 oc2 kV2 dc2 pm2 cd2 ct2 oc3 kV3 dc3 pm3 cd3 ct3 oc4 kV4 dc4 pm4 cd4 ct4 oc5 kV5 dc5 pm5 cd5 ct5 oc6 kV6 dc6 pm6 cd6 ct6 oc7 kV7 dc7 pm7 cd7 ct7 oc8 kV8 dc8 pm8 cd8 ct8 oc9 kV9 dc9 pm9 cd9 ct9 oc10 kV10 dc10 pm10 cd10 ct10 oc11 kV11 dc11 pm11 cd11 ct11 oc12 kV12 dc12 pm12 cd12 ct12 oc13 kV13 dc13 pm13 cd13 ct13 oc14 kV14 dc14 pm14 cd14 ct14 oc15 kV15 dc15 pm15 cd15 ct15 oc16 kV16 dc16 pm16 cd16 ct16 oc17 kV17 dc17 pm17 cd17 ct17 oc18 kV18 dc18 pm18 cd18 ct18 oc19 kV19 dc19 pm19 cd19 ct19 oc20 kV20 dc20 pm20 cd20 ct20 oc21 kV21 dc21 pm21 cd21 ct21 oc22 kV22 dc22 pm22 cd22 ct22 oc23 kV23 dc23 pm23 cd23 ct23 : Value}
    {nm_CT q_CT : Str} {N_CT : Addr} {bs_CT bm_CT : List Value} {sn_CT : List Str} {sub_CT : List Value} {ab_CT : Bool} {col_CT : Option Bool} {dd_CT : Option Addr} {m0_CT m1_CT m2_CT m3_CT m5_CT : Option Value}
    {nm_CU q_CU : Str} {N_CU : Addr} {bs_CU bm_CU : List Value} {sn_CU : List Str} {sub_CU : List Value} {ab_CU : Bool} {col_CU : Option Bool} {dd_CU : Option Addr} {m0_CU m1_CU m2_CU m3_CU m5_CU : Option Value}
    {nm_CM q_CM : Str} {N_CM : Addr} {bs_CM bm_CM : List Value} {sn_CM : List Str} {sub_CM : List Value} {ab_CM : Bool} {col_CM : Option Bool} {dd_CM : Option Addr} {m0_CM m1_CM m2_CM m3_CM m5_CM : Option Value}
    {rges : Array DictEntry} {rgn : Nat} {pU fU : Addr} {odU anU : Option Addr} {slU : Array (Option Value)} {ocU kVU dcU pmU cdU ctU : Value} {plU : List Value} {uo : Option Addr} {un : Nat} {uss : Array (Option Value)}
    {rt0 : Addr} {ro0 : Option Addr} {rn0 : Nat} {rs0 : Array (Option Value)} {ru0_0 ru0_1 : Tok}
    {rt1 : Addr} {ro1 : Option Addr} {rn1 : Nat} {rs1 : Array (Option Value)} {ru1_0 ru1_1 ru1_2 ru1_3 : Tok}
    {rt2 : Addr} {ro2 : Option Addr} {rn2 : Nat} {rs2 : Array (Option Value)} {ru2_0 ru2_1 : Tok}
    {rt3 : Addr} {ro3 : Option Addr} {rn3 : Nat} {rs3 : Array (Option Value)} {ru3_0 ru3_1 : Tok}
    {rt4 : Addr} {ro4 : Option Addr} {rn4 : Nat} {rs4 : Array (Option Value)} {ru4_0 : Tok}
    {rt5 : Addr} {ro5 : Option Addr} {rn5 : Nat} {rs5 : Array (Option Value)} {ru5_0 : Tok}
    {rt6 : Addr} {ro6 : Option Addr} {rn6 : Nat} {rs6 : Array (Option Value)}
    {v0 j0 : Addr} {vo0 jo0 : Option Addr} {vn0 jn0 : Nat} {vs0 js0 : Array (Option Value)} {va0 vb0 : Tok} {ju0_0 ju0_1 : Tok}
    {v1 j1 : Addr} {vo1 jo1 : Option Addr} {vn1 jn1 : Nat} {vs1 js1 : Array (Option Value)} {va1 vb1 : Tok} {ju1_0 ju1_1 : Tok}
    {v2 j2 : Addr} {vo2 jo2 : Option Addr} {vn2 jn2 : Nat} {vs2 js2 : Array (Option Value)} {va2 vb2 : Tok} {ju2_0 ju2_1 ju2_2 ju2_3 : Tok}
    {v3 j3 : Addr} {vo3 jo3 : Option Addr} {vn3 jn3 : Nat} {vs3 js3 : Array (Option Value)} {va3 vb3 : Tok} {ju3_0 ju3_1 : Tok}
    {v4 j4 : Addr} {vo4 jo4 : Option Addr} {vn4 jn4 : Nat} {vs4 js4 : Array (Option Value)} {va4 vb4 : Tok} {ju4_0 : Tok}
    {v5 j5 : Addr} {vo5 jo5 : Option Addr} {vn5 jn5 : Nat} {vs5 js5 : Array (Option Value)} {va5 vb5 : Tok} {ju5_0 : Tok}
    {v6 j6 : Addr} {vo6 jo6 : Option Addr} {vn6 jn6 : Nat} {vs6 js6 : Array (Option Value)} {va6 vb6 : Tok}
    (aC : PySem.W.nsIn K mainGlobals "Grammar" = some (some (.ref C)))
    (pgC : PySem.W.plainGet K C Str.empty = true)
    (hdC : PySem.W.hasDictIn K C = true)
    (poC : PySem.W.plainOver K C = true)
    (saC : PySem.W.findIn K (.ref C) "__setattr__" = some (some (.builtin "object.__setattr__")))
    (mkC : PySem.W.makesIn K C = true)
    (kcC : PySem.W.keepIn K (.ref C) = true)
    (nC_root : PySem.W.findIn K (.ref C) "root" = some none)
    (nC_rows : PySem.W.findIn K (.ref C) "_rows" = some none)
    (aCL : PySem.W.nsIn K mainGlobals "LaidError" = some (some (.ref CL)))
    (aCS : PySem.W.nsIn K mainGlobals "Strange" = some (some (.ref CS)))
    (aRD : PySem.W.nsIn K mainGlobals "INNER_ROLES" = some (some (.ref RD)))
    (aUR : PySem.W.nsIn K mainGlobals "USUAL_ROWS" = some (some (.ref UR)))
    (aCT : PySem.W.nsIn K mainGlobals "Taken" = some (some (.ref CT)))
    (x_CT : K.lookup CT = some (excClassObj nm_CT q_CT CT N_CT bs_CT bm_CT true sn_CT sub_CT ab_CT col_CT dd_CT m0_CT m1_CT m2_CT m3_CT m5_CT "ValueError.__new__"))
    (xb_CT : PySem.HandSPX.refsVE bm_CT = true)
    (sa_CT : PySem.W.findIn K (.ref CT) "__setattr__" = some (some (.builtin "object.__setattr__")))
    (xe_CT : PySem.W.subIn K (.ref CT) (.type "BaseException") = some true)
    (xt_CT : PySem.W.typeIn K (.ref CT) = some (.type "type"))
    (xk_CT : PySem.W.keepIn K (.ref CT) = true)
    (f_CT_kind : PySem.W.findIn K (.ref CT) "kind" = some none)
    (hg_CT : PySem.W.findIn K (.ref CT) "__getattribute__" = some (some (.builtin "BaseException.__getattribute__")))
    (hk_CT : PySem.W.findIn K (.ref CT) "__getattr__" = some none)
    (hd_CT : PySem.W.hasDictIn K CT = true)
    (ha_CT : PySem.W.findIn K (.ref CT) "__class__" = some (some (.builtin "object.__class__")))
    (hn_CT : PySem.W.specialIn K (.builtin "object.__class__") "__get__" = some (some (.builtin "getset_descriptor.__get__")))
    (ht_CT : PySem.W.takesIn K (.builtin "object.__class__") = some true)
    (hm_CT : PySem.W.mroIn K CT (.type "object") = some true)
    (ls_CT : PySem.W.subIn K (.ref CT) (.ref CT) = some true)
    (aCU : PySem.W.nsIn K mainGlobals "Unknown" = some (some (.ref CU)))
    (x_CU : K.lookup CU = some (excClassObj nm_CU q_CU CU N_CU bs_CU bm_CU true sn_CU sub_CU ab_CU col_CU dd_CU m0_CU m1_CU m2_CU m3_CU m5_CU "ValueError.__new__"))
    (xb_CU : PySem.HandSPX.refsVE bm_CU = true)
    (sa_CU : PySem.W.findIn K (.ref CU) "__setattr__" = some (some (.builtin "object.__setattr__")))
    (xe_CU : PySem.W.subIn K (.ref CU) (.type "BaseException") = some true)
    (xt_CU : PySem.W.typeIn K (.ref CU) = some (.type "type"))
    (xk_CU : PySem.W.keepIn K (.ref CU) = true)
    (f_CU_kind : PySem.W.findIn K (.ref CU) "kind" = some none)
    (hg_CU : PySem.W.findIn K (.ref CU) "__getattribute__" = some (some (.builtin "BaseException.__getattribute__")))
    (hk_CU : PySem.W.findIn K (.ref CU) "__getattr__" = some none)
    (hd_CU : PySem.W.hasDictIn K CU = true)
    (ha_CU : PySem.W.findIn K (.ref CU) "__class__" = some (some (.builtin "object.__class__")))
    (hn_CU : PySem.W.specialIn K (.builtin "object.__class__") "__get__" = some (some (.builtin "getset_descriptor.__get__")))
    (ht_CU : PySem.W.takesIn K (.builtin "object.__class__") = some true)
    (hm_CU : PySem.W.mroIn K CU (.type "object") = some true)
    (ls_CU : PySem.W.subIn K (.ref CU) (.ref CU) = some true)
    (aCM : PySem.W.nsIn K mainGlobals "Misfit" = some (some (.ref CM)))
    (x_CM : K.lookup CM = some (excClassObj nm_CM q_CM CM N_CM bs_CM bm_CM true sn_CM sub_CM ab_CM col_CM dd_CM m0_CM m1_CM m2_CM m3_CM m5_CM "ValueError.__new__"))
    (xb_CM : PySem.HandSPX.refsVE bm_CM = true)
    (sa_CM : PySem.W.findIn K (.ref CM) "__setattr__" = some (some (.builtin "object.__setattr__")))
    (xe_CM : PySem.W.subIn K (.ref CM) (.type "BaseException") = some true)
    (xt_CM : PySem.W.typeIn K (.ref CM) = some (.type "type"))
    (xk_CM : PySem.W.keepIn K (.ref CM) = true)
    (f_CM_kind : PySem.W.findIn K (.ref CM) "kind" = some none)
    (hg_CM : PySem.W.findIn K (.ref CM) "__getattribute__" = some (some (.builtin "BaseException.__getattribute__")))
    (hk_CM : PySem.W.findIn K (.ref CM) "__getattr__" = some none)
    (hd_CM : PySem.W.hasDictIn K CM = true)
    (ha_CM : PySem.W.findIn K (.ref CM) "__class__" = some (some (.builtin "object.__class__")))
    (hn_CM : PySem.W.specialIn K (.builtin "object.__class__") "__get__" = some (some (.builtin "getset_descriptor.__get__")))
    (ht_CM : PySem.W.takesIn K (.builtin "object.__class__") = some true)
    (hm_CM : PySem.W.mroIn K CM (.type "object") = some true)
    (ls_CM : PySem.W.subIn K (.ref CM) (.ref CM) = some true)
    (kv_CT : PySem.W.kitOne K (.ref CT) (.type "ValueError") = some true)
    (ks_CT : PySem.W.kitOne K (.ref CT) (.ref CS) = some false)
    (kT_CT : PySem.W.kitOne K (.ref CT) (.ref CT) = some true)
    (kU_CT : PySem.W.kitOne K (.ref CT) (.ref CU) = some false)
    (kM_CT : PySem.W.kitOne K (.ref CT) (.ref CM) = some false)
    (kv_CU : PySem.W.kitOne K (.ref CU) (.type "ValueError") = some true)
    (ks_CU : PySem.W.kitOne K (.ref CU) (.ref CS) = some false)
    (kT_CU : PySem.W.kitOne K (.ref CU) (.ref CT) = some false)
    (kU_CU : PySem.W.kitOne K (.ref CU) (.ref CU) = some true)
    (kM_CU : PySem.W.kitOne K (.ref CU) (.ref CM) = some false)
    (kv_CM : PySem.W.kitOne K (.ref CM) (.type "ValueError") = some true)
    (ks_CM : PySem.W.kitOne K (.ref CM) (.ref CS) = some false)
    (kT_CM : PySem.W.kitOne K (.ref CM) (.ref CT) = some false)
    (kU_CM : PySem.W.kitOne K (.ref CM) (.ref CU) = some false)
    (kM_CM : PySem.W.kitOne K (.ref CM) (.ref CM) = some true)
    (l_xe : PySem.W.subIn K (.ref CL) (.type "BaseException") = some true)
    (l_hd : PySem.W.hasDictIn K CL = true)
    (l_xt : PySem.W.typeIn K (.ref CL) = some (.type "type"))
    (l_T : PySem.W.subIn K (.ref CT) (.ref CL) = some true)
    (l_U : PySem.W.subIn K (.ref CU) (.ref CL) = some true)
    (l_M : PySem.W.subIn K (.ref CM) (.ref CL) = some true)
    (u_a : PySem.W.findCls K (.ref C) (.type "type") "usual" = some (.get (.builtin "staticmethod.__get__") (.ref pU) .none (.ref C)))
    (u_r : PySem.W.recIn K pU "staticmethod" = some (.ref fU :: plU))
    (u_l : K.lookup fU = some ⟨ocU, odU, .func (PySem.W.fnOf "usual" "Grammar.usual" (defArgs sUsual) (defBody sUsual) (defScope sUsual) .none kVU dcU pmU anU cdU ctU), slU⟩)
    (u_c : PySem.W.codeIn K cdU "Grammar.usual" = true)
    (u_k : PySem.W.keepIn K (.ref fU) = true)
    (u_rd : PySem.W.readsIn K C (.type "type") = true)
    (u_ga : PySem.W.specialIn K (.ref C) "__getattribute__" = some (some (.builtin "type.__getattribute__")))
    (rg_at : K.lookup RD = some ⟨.type "dict", none, .dict rges rgn, #[]⟩)
    (rg_lit : PySem.W.KeysLit w.params rges.toList)
    (rg_low : (RD == sysModules) = false)
    (rk0 : PySem.W.nsIn K RD "root" = some (some (.ref rt0)))
    (rl0 : K.lookup rt0 = some ⟨.type "tuple", ro0, .seq #[.str (Str.ofString "block") ru0_0, .str (Str.ofString "head") ru0_1] rn0, rs0⟩)
    (rk1 : PySem.W.nsIn K RD "block" = some (some (.ref rt1)))
    (rl1 : K.lookup rt1 = some ⟨.type "tuple", ro1, .seq #[.str (Str.ofString "span") ru1_0, .str (Str.ofString "note") ru1_1, .str (Str.ofString "figure") ru1_2, .str (Str.ofString "ref") ru1_3] rn1, rs1⟩)
    (rk2 : PySem.W.nsIn K RD "head" = some (some (.ref rt2)))
    (rl2 : K.lookup rt2 = some ⟨.type "tuple", ro2, .seq #[.str (Str.ofString "span") ru2_0, .str (Str.ofString "ref") ru2_1] rn2, rs2⟩)
    (rk3 : PySem.W.nsIn K RD "span" = some (some (.ref rt3)))
    (rl3 : K.lookup rt3 = some ⟨.type "tuple", ro3, .seq #[.str (Str.ofString "span") ru3_0, .str (Str.ofString "ref") ru3_1] rn3, rs3⟩)
    (rk4 : PySem.W.nsIn K RD "note" = some (some (.ref rt4)))
    (rl4 : K.lookup rt4 = some ⟨.type "tuple", ro4, .seq #[.str (Str.ofString "span") ru4_0] rn4, rs4⟩)
    (rk5 : PySem.W.nsIn K RD "figure" = some (some (.ref rt5)))
    (rl5 : K.lookup rt5 = some ⟨.type "tuple", ro5, .seq #[.str (Str.ofString "span") ru5_0] rn5, rs5⟩)
    (rk6 : PySem.W.nsIn K RD "ref" = some (some (.ref rt6)))
    (rl6 : K.lookup rt6 = some ⟨.type "tuple", ro6, .seq #[] rn6, rs6⟩)
    (us_l : K.lookup UR = some ⟨.type "tuple", uo, .seq #[.ref v0, .ref v1, .ref v2, .ref v3, .ref v4, .ref v5, .ref v6] un, uss⟩)
    (vl0 : K.lookup v0 = some ⟨.type "tuple", vo0, .seq #[.str (Str.ofString "doc") va0, .str (Str.ofString "root") vb0, .ref j0] vn0, vs0⟩)
    (jl0 : K.lookup j0 = some ⟨.type "tuple", jo0, .seq #[.str (Str.ofString "head") ju0_0, .str (Str.ofString "par") ju0_1] jn0, js0⟩)
    (vl1 : K.lookup v1 = some ⟨.type "tuple", vo1, .seq #[.str (Str.ofString "head") va1, .str (Str.ofString "head") vb1, .ref j1] vn1, vs1⟩)
    (jl1 : K.lookup j1 = some ⟨.type "tuple", jo1, .seq #[.str (Str.ofString "em") ju1_0, .str (Str.ofString "see") ju1_1] jn1, js1⟩)
    (vl2 : K.lookup v2 = some ⟨.type "tuple", vo2, .seq #[.str (Str.ofString "par") va2, .str (Str.ofString "block") vb2, .ref j2] vn2, vs2⟩)
    (jl2 : K.lookup j2 = some ⟨.type "tuple", jo2, .seq #[.str (Str.ofString "em") ju2_0, .str (Str.ofString "note") ju2_1, .str (Str.ofString "fig") ju2_2, .str (Str.ofString "see") ju2_3] jn2, js2⟩)
    (vl3 : K.lookup v3 = some ⟨.type "tuple", vo3, .seq #[.str (Str.ofString "em") va3, .str (Str.ofString "span") vb3, .ref j3] vn3, vs3⟩)
    (jl3 : K.lookup j3 = some ⟨.type "tuple", jo3, .seq #[.str (Str.ofString "em") ju3_0, .str (Str.ofString "see") ju3_1] jn3, js3⟩)
    (vl4 : K.lookup v4 = some ⟨.type "tuple", vo4, .seq #[.str (Str.ofString "note") va4, .str (Str.ofString "note") vb4, .ref j4] vn4, vs4⟩)
    (jl4 : K.lookup j4 = some ⟨.type "tuple", jo4, .seq #[.str (Str.ofString "em") ju4_0] jn4, js4⟩)
    (vl5 : K.lookup v5 = some ⟨.type "tuple", vo5, .seq #[.str (Str.ofString "fig") va5, .str (Str.ofString "figure") vb5, .ref j5] vn5, vs5⟩)
    (jl5 : K.lookup j5 = some ⟨.type "tuple", jo5, .seq #[.str (Str.ofString "em") ju5_0] jn5, js5⟩)
    (vl6 : K.lookup v6 = some ⟨.type "tuple", vo6, .seq #[.str (Str.ofString "see") va6, .str (Str.ofString "ref") vb6, .ref j6] vn6, vs6⟩)
    (jl6 : K.lookup j6 = some ⟨.type "tuple", jo6, .seq #[] jn6, js6⟩)
    (a1 : PySem.W.nsIn K mainGlobals "_check_inner" = some (some (.ref f1)))
    (l1 : K.lookup f1 = some ⟨oc1, od1, .func (PySem.W.fnOf "_check_inner" "_check_inner" (defArgs sCheckIn) (defBody sCheckIn) (defScope sCheckIn) .none kV1 dc1 pm1 an1 cd1 ct1), sl1⟩)
    (c1 : PySem.W.codeIn K cd1 "_check_inner" = true)
    (k1 : PySem.W.keepIn K (.ref f1) = true)
    (a2 : PySem.W.nsIn K mainGlobals "_law_cell" = some (some (.ref f2)))
    (l2 : K.lookup f2 = some ⟨oc2, od2, .func (PySem.W.fnOf "_law_cell" "_law_cell" (defArgs sCell) (defBody sCell) (defScope sCell) .none kV2 dc2 pm2 an2 cd2 ct2), sl2⟩)
    (c2 : PySem.W.codeIn K cd2 "_law_cell" = true)
    (k2 : PySem.W.keepIn K (.ref f2) = true)
    (a3 : PySem.W.nsIn K mainGlobals "_law_row" = some (some (.ref f3)))
    (l3 : K.lookup f3 = some ⟨oc3, od3, .func (PySem.W.fnOf "_law_row" "_law_row" (defArgs sRow) (defBody sRow) (defScope sRow) .none kV3 dc3 pm3 an3 cd3 ct3), sl3⟩)
    (c3 : PySem.W.codeIn K cd3 "_law_row" = true)
    (k3 : PySem.W.keepIn K (.ref f3) = true)
    (a4 : PySem.W.nsIn K mainGlobals "_law_same" = some (some (.ref f4)))
    (l4 : K.lookup f4 = some ⟨oc4, od4, .func (PySem.W.fnOf "_law_same" "_law_same" (defArgs sSame) (defBody sSame) (defScope sSame) .none kV4 dc4 pm4 an4 cd4 ct4), sl4⟩)
    (c4 : PySem.W.codeIn K cd4 "_law_same" = true)
    (k4 : PySem.W.keepIn K (.ref f4) = true)
    (a5 : PySem.W.nsIn K mainGlobals "_law_names" = some (some (.ref f5)))
    (l5 : K.lookup f5 = some ⟨oc5, od5, .func (PySem.W.fnOf "_law_names" "_law_names" (defArgs sNames) (defBody sNames) (defScope sNames) .none kV5 dc5 pm5 an5 cd5 ct5), sl5⟩)
    (c5 : PySem.W.codeIn K cd5 "_law_names" = true)
    (k5 : PySem.W.keepIn K (.ref f5) = true)
    (a6 : PySem.W.nsIn K mainGlobals "_law_kinds" = some (some (.ref f6)))
    (l6 : K.lookup f6 = some ⟨oc6, od6, .func (PySem.W.fnOf "_law_kinds" "_law_kinds" (defArgs sKinds) (defBody sKinds) (defScope sKinds) .none kV6 dc6 pm6 an6 cd6 ct6), sl6⟩)
    (c6 : PySem.W.codeIn K cd6 "_law_kinds" = true)
    (k6 : PySem.W.keepIn K (.ref f6) = true)
    (a7 : PySem.W.nsIn K mainGlobals "_law_may" = some (some (.ref f7)))
    (l7 : K.lookup f7 = some ⟨oc7, od7, .func (PySem.W.fnOf "_law_may" "_law_may" (defArgs sMay) (defBody sMay) (defScope sMay) .none kV7 dc7 pm7 an7 cd7 ct7), sl7⟩)
    (c7 : PySem.W.codeIn K cd7 "_law_may" = true)
    (k7 : PySem.W.keepIn K (.ref f7) = true)
    (a8 : PySem.W.nsIn K mainGlobals "_law_grammar" = some (some (.ref f8)))
    (l8 : K.lookup f8 = some ⟨oc8, od8, .func (PySem.W.fnOf "_law_grammar" "_law_grammar" (defArgs sGrammar) (defBody sGrammar) (defScope sGrammar) .none kV8 dc8 pm8 an8 cd8 ct8), sl8⟩)
    (c8 : PySem.W.codeIn K cd8 "_law_grammar" = true)
    (k8 : PySem.W.keepIn K (.ref f8) = true)
    (a9 : PySem.W.nsIn K mainGlobals "_law_error" = some (some (.ref f9)))
    (l9 : K.lookup f9 = some ⟨oc9, od9, .func (PySem.W.fnOf "_law_error" "_law_error" (defArgs sError) (defBody sError) (defScope sError) .none kV9 dc9 pm9 an9 cd9 ct9), sl9⟩)
    (c9 : PySem.W.codeIn K cd9 "_law_error" = true)
    (k9 : PySem.W.keepIn K (.ref f9) = true)
    (a10 : PySem.W.nsIn K mainGlobals "_law_due" = some (some (.ref f10)))
    (l10 : K.lookup f10 = some ⟨oc10, od10, .func (PySem.W.fnOf "_law_due" "_law_due" (defArgs sDue) (defBody sDue) (defScope sDue) .none kV10 dc10 pm10 an10 cd10 ct10), sl10⟩)
    (c10 : PySem.W.codeIn K cd10 "_law_due" = true)
    (k10 : PySem.W.keepIn K (.ref f10) = true)
    (a11 : PySem.W.nsIn K mainGlobals "_law_tells" = some (some (.ref f11)))
    (l11 : K.lookup f11 = some ⟨oc11, od11, .func (PySem.W.fnOf "_law_tells" "_law_tells" (defArgs sTells) (defBody sTells) (defScope sTells) .none kV11 dc11 pm11 an11 cd11 ct11), sl11⟩)
    (c11 : PySem.W.codeIn K cd11 "_law_tells" = true)
    (k11 : PySem.W.keepIn K (.ref f11) = true)
    (a12 : PySem.W.nsIn K mainGlobals "_law_asked" = some (some (.ref f12)))
    (l12 : K.lookup f12 = some ⟨oc12, od12, .func (PySem.W.fnOf "_law_asked" "_law_asked" (defArgs sAsked) (defBody sAsked) (defScope sAsked) .none kV12 dc12 pm12 an12 cd12 ct12), sl12⟩)
    (c12 : PySem.W.codeIn K cd12 "_law_asked" = true)
    (k12 : PySem.W.keepIn K (.ref f12) = true)
    (a13 : PySem.W.nsIn K mainGlobals "_law_put" = some (some (.ref f13)))
    (l13 : K.lookup f13 = some ⟨oc13, od13, .func (PySem.W.fnOf "_law_put" "_law_put" (defArgs sPut) (defBody sPut) (defScope sPut) .none kV13 dc13 pm13 an13 cd13 ct13), sl13⟩)
    (c13 : PySem.W.codeIn K cd13 "_law_put" = true)
    (k13 : PySem.W.keepIn K (.ref f13) = true)
    (a14 : PySem.W.nsIn K mainGlobals "_law_changed" = some (some (.ref f14)))
    (l14 : K.lookup f14 = some ⟨oc14, od14, .func (PySem.W.fnOf "_law_changed" "_law_changed" (defArgs sChanged) (defBody sChanged) (defScope sChanged) .none kV14 dc14 pm14 an14 cd14 ct14), sl14⟩)
    (c14 : PySem.W.codeIn K cd14 "_law_changed" = true)
    (k14 : PySem.W.keepIn K (.ref f14) = true)
    (a15 : PySem.W.nsIn K mainGlobals "law" = some (some (.ref f15)))
    (l15 : K.lookup f15 = some ⟨oc15, od15, .func (PySem.W.fnOf "law" "law" (defArgs sLaw) (defBody sLaw) (defScope sLaw) .none kV15 dc15 pm15 an15 cd15 ct15), sl15⟩)
    (c15 : PySem.W.codeIn K cd15 "law" = true)
    (k15 : PySem.W.keepIn K (.ref f15) = true)
    (a16 : PySem.W.findIn K (.ref C) "__init__" = some (some (.ref f16)))
    (i16 : PySem.W.isFn K (.ref f16) = true)
    (l16 : K.lookup f16 = some ⟨oc16, od16, .func (PySem.W.fnOf "__init__" "Grammar.__init__" (defArgs sInit) (defBody sInit) (defScope sInit) .none kV16 dc16 pm16 an16 cd16 ct16), sl16⟩)
    (c16 : PySem.W.codeIn K cd16 "Grammar.__init__" = true)
    (k16 : PySem.W.keepIn K (.ref f16) = true)
    (a17 : PySem.W.findIn K (.ref C) "__getitem__" = some (some (.ref f17)))
    (i17 : PySem.W.isFn K (.ref f17) = true)
    (x17 : PySem.W.fnIn K f17 = true)
    (l17 : K.lookup f17 = some ⟨oc17, od17, .func (PySem.W.fnOf "__getitem__" "Grammar.__getitem__" (defArgs sGet) (defBody sGet) (defScope sGet) .none kV17 dc17 pm17 an17 cd17 ct17), sl17⟩)
    (c17 : PySem.W.codeIn K cd17 "Grammar.__getitem__" = true)
    (k17 : PySem.W.keepIn K (.ref f17) = true)
    (a18 : PySem.W.findIn K (.ref C) "__contains__" = some (some (.ref f18)))
    (i18 : PySem.W.isFn K (.ref f18) = true)
    (x18 : PySem.W.typeIn K (.ref f18) = some (.type "function"))
    (l18 : K.lookup f18 = some ⟨oc18, od18, .func (PySem.W.fnOf "__contains__" "Grammar.__contains__" (defArgs sHas) (defBody sHas) (defScope sHas) .none kV18 dc18 pm18 an18 cd18 ct18), sl18⟩)
    (c18 : PySem.W.codeIn K cd18 "Grammar.__contains__" = true)
    (k18 : PySem.W.keepIn K (.ref f18) = true)
    (a19 : PySem.W.findIn K (.ref C) "__len__" = some (some (.ref f19)))
    (i19 : PySem.W.isFn K (.ref f19) = true)
    (x19 : PySem.W.typeIn K (.ref f19) = some (.type "function"))
    (l19 : K.lookup f19 = some ⟨oc19, od19, .func (PySem.W.fnOf "__len__" "Grammar.__len__" (defArgs sLen) (defBody sLen) (defScope sLen) .none kV19 dc19 pm19 an19 cd19 ct19), sl19⟩)
    (c19 : PySem.W.codeIn K cd19 "Grammar.__len__" = true)
    (k19 : PySem.W.keepIn K (.ref f19) = true)
    (a20 : PySem.W.findIn K (.ref C) "__iter__" = some (some (.ref f20)))
    (i20 : PySem.W.isFn K (.ref f20) = true)
    (l20 : K.lookup f20 = some ⟨oc20, od20, .func (PySem.W.fnOf "__iter__" "Grammar.__iter__" (defArgs sIter) (defBody sIter) (defScope sIter) .none kV20 dc20 pm20 an20 cd20 ct20), sl20⟩)
    (c20 : PySem.W.codeIn K cd20 "Grammar.__iter__" = true)
    (k20 : PySem.W.keepIn K (.ref f20) = true)
    (a21 : PySem.W.findIn K (.ref CT) "__init__" = some (some (.ref f21)))
    (l21 : K.lookup f21 = some ⟨oc21, od21, .func (PySem.W.fnOf "__init__" "Taken.__init__" (defArgs sTakenI) (defBody sTakenI) (defScope sTakenI) .none kV21 dc21 pm21 an21 cd21 ct21), sl21⟩)
    (c21 : PySem.W.codeIn K cd21 "Taken.__init__" = true)
    (k21 : PySem.W.keepIn K (.ref f21) = true)
    (t21 : PySem.W.typeIn K (.ref f21) = some (.type "function"))
    (a22 : PySem.W.findIn K (.ref CU) "__init__" = some (some (.ref f22)))
    (l22 : K.lookup f22 = some ⟨oc22, od22, .func (PySem.W.fnOf "__init__" "Unknown.__init__" (defArgs sUnknownI) (defBody sUnknownI) (defScope sUnknownI) .none kV22 dc22 pm22 an22 cd22 ct22), sl22⟩)
    (c22 : PySem.W.codeIn K cd22 "Unknown.__init__" = true)
    (k22 : PySem.W.keepIn K (.ref f22) = true)
    (t22 : PySem.W.typeIn K (.ref f22) = some (.type "function"))
    (a23 : PySem.W.findIn K (.ref CM) "__init__" = some (some (.ref f23)))
    (l23 : K.lookup f23 = some ⟨oc23, od23, .func (PySem.W.fnOf "__init__" "Misfit.__init__" (defArgs sMisfitI) (defBody sMisfitI) (defScope sMisfitI) .none kV23 dc23 pm23 an23 cd23 ct23), sl23⟩)
    (c23 : PySem.W.codeIn K cd23 "Misfit.__init__" = true)
    (k23 : PySem.W.keepIn K (.ref f23) = true)
    (t23 : PySem.W.typeIn K (.ref f23) = some (.type "function"))
    (z0 : PySem.W.nsIn K mainGlobals "len" = some none)
    (z1 : PySem.W.nsIn K mainGlobals "int" = some none)
    (z2 : PySem.W.nsIn K mainGlobals "str" = some none)
    (z3 : PySem.W.nsIn K mainGlobals "bool" = some none)
    (z4 : PySem.W.nsIn K mainGlobals "tuple" = some none)
    (z5 : PySem.W.nsIn K mainGlobals "list" = some none)
    (z6 : PySem.W.nsIn K mainGlobals "range" = some none)
    (z7 : PySem.W.nsIn K mainGlobals "isinstance" = some none)
    (z8 : PySem.W.nsIn K mainGlobals "iter" = some none)
    (z9 : PySem.W.nsIn K mainGlobals "sum" = some none)
    (z10 : PySem.W.nsIn K mainGlobals "max" = some none)
    (z11 : PySem.W.nsIn K mainGlobals "ValueError" = some none) :
    ∃ fd : FuncData, (∀ (s : Shared) (v : Value), BindsTo s fd ⟨[v], []⟩ [("_law_script", v)]) ∧ ∀ base : Heap, K.In base → base.Ns mainGlobals mg → FnOk l.prog w K mg base CX0 7 fa fd ["_law_script"] (spLaw K) := by
  have e := hfa.symm.trans (PySem.W.mg_of X G a15); cases e
  have B : Blt mg := ⟨PySem.W.mg_none_of X G z0, PySem.W.mg_none_of X G z1, PySem.W.mg_none_of X G z2, PySem.W.mg_none_of X G z3, PySem.W.mg_none_of X G z4, PySem.W.mg_none_of X G z5, PySem.W.mg_none_of X G z6, PySem.W.mg_none_of X G z7, PySem.W.mg_none_of X G z8, PySem.W.mg_none_of X G z9, PySem.W.mg_none_of X G z10, PySem.W.mg_none_of X G z11⟩
  have F1 := fun_mk (st := sCheckIn) l1 c1 k1
  have F2 := fun_mk (st := sCell) l2 c2 k2
  have F3 := fun_mk (st := sRow) l3 c3 k3
  have F4 := fun_mk (st := sSame) l4 c4 k4
  have F5 := fun_mk (st := sNames) l5 c5 k5
  have F6 := fun_mk (st := sKinds) l6 c6 k6
  have F7 := fun_mk (st := sMay) l7 c7 k7
  have F8 := fun_mk (st := sGrammar) l8 c8 k8
  have F9 := fun_mk (st := sError) l9 c9 k9
  have F10 := fun_mk (st := sDue) l10 c10 k10
  have F11 := fun_mk (st := sTells) l11 c11 k11
  have F12 := fun_mk (st := sAsked) l12 c12 k12
  have F13 := fun_mk (st := sPut) l13 c13 k13
  have F14 := fun_mk (st := sChanged) l14 c14 k14
  have F15 := fun_mk (st := sLaw) l15 c15 k15
  have F16 := fun_mk (st := sInit) l16 c16 k16
  have F17 := fun_mk (st := sGet) l17 c17 k17
  have F18 := fun_mk (st := sHas) l18 c18 k18
  have F19 := fun_mk (st := sLen) l19 c19 k19
  have F20 := fun_mk (st := sIter) l20 c20 k20
  have F21 := fun_mk (st := sTakenI) l21 c21 k21
  have F22 := fun_mk (st := sUnknownI) l22 c22 k22
  have F23 := fun_mk (st := sMisfitI) l23 c23 k23
  have b1 := F1.binds (ps := ["rows"]) fun _ _ _ _ _ _ us hl => match us, hl with | [_], _ => rfl
  have b2 := F2.binds (ps := ["_law_script", "_law_k"]) fun _ _ _ _ _ _ us hl => match us, hl with | [_, _], _ => rfl
  have b3 := F3.binds (ps := ["_law_cell_here", "_law_limits"]) fun _ _ _ _ _ _ us hl => match us, hl with | [_, _], _ => rfl
  have b4 := F4.binds (ps := ["_law_one", "_law_two"]) fun _ _ _ _ _ _ us hl => match us, hl with | [_, _], _ => rfl
  have b5 := F5.binds (ps := ["_law_cell_here", "_law_many"]) fun _ _ _ _ _ _ us hl => match us, hl with | [_, _], _ => rfl
  have b6 := F6.binds (ps := ["_law_cell_here", "_law_many"]) fun _ _ _ _ _ _ us hl => match us, hl with | [_, _], _ => rfl
  have b7 := F7.binds (ps := ["_law_outer", "_law_inner"]) fun _ _ _ _ _ _ us hl => match us, hl with | [_, _], _ => rfl
  have b8 := F8.binds (ps := ["_law_cell_here", "_law_kinds_here"]) fun _ _ _ _ _ _ us hl => match us, hl with | [_, _], _ => rfl
  have b9 := F9.binds (ps := ["_law_e"]) fun _ _ _ _ _ _ us hl => match us, hl with | [_], _ => rfl
  have b10 := F10.binds (ps := ["_law_top", "_law_rows"]) fun _ _ _ _ _ _ us hl => match us, hl with | [_, _], _ => rfl
  have b11 := F11.binds (ps := ["_law_grammar_here", "_law_top", "_law_rows", "_law_stranger"]) fun _ _ _ _ _ _ us hl => match us, hl with | [_, _, _, _], _ => rfl
  have b12 := F12.binds (ps := ["_law_top", "_law_rows", "_law_stranger"]) fun _ _ _ _ _ _ us hl => match us, hl with | [_, _, _], _ => rfl
  have b13 := F13.binds (ps := ["_law_inner", "_law_at", "_law_kind"]) fun _ _ _ _ _ _ us hl => match us, hl with | [_, _, _], _ => rfl
  have b14 := F14.binds (ps := ["_law_top", "_law_rows", "_law_changes", "_law_stranger"]) fun _ _ _ _ _ _ us hl => match us, hl with | [_, _, _, _], _ => rfl
  have b16 := F16.binds (ps := ["self", "root", "rows"]) fun _ _ _ _ _ _ us hl => match us, hl with | [_, _, _], _ => rfl
  have b17 := F17.binds (ps := ["self", "kind"]) fun _ _ _ _ _ _ us hl => match us, hl with | [_, _], _ => rfl
  have b18 := F18.binds (ps := ["self", "kind"]) fun _ _ _ _ _ _ us hl => match us, hl with | [_, _], _ => rfl
  have b19 := F19.binds (ps := ["self"]) fun _ _ _ _ _ _ us hl => match us, hl with | [_], _ => rfl
  have b20 := F20.binds (ps := ["self"]) fun _ _ _ _ _ _ us hl => match us, hl with | [_], _ => rfl
  have b21 := F21.binds (ps := ["self", "kind"]) fun _ _ _ _ _ _ us hl => match us, hl with | [_, _], _ => rfl
  have b22 := F22.binds (ps := ["self", "kind"]) fun _ _ _ _ _ _ us hl => match us, hl with | [_, _], _ => rfl
  have b23 := F23.binds (ps := ["self", "kind"]) fun _ _ _ _ _ _ us hl => match us, hl with | [_, _], _ => rfl
  have Tc : Gmr K mg C := ⟨⟨pgC, hdC, poC, saC⟩, nC_root, nC_rows, PySem.W.mg_of X G aC⟩
  have NT : TkE K mg CT f21 _ := ⟨PySem.W.mg_of X G aCT, ⟨⟨nm_CT, q_CT, N_CT, bs_CT, bm_CT, sn_CT, sub_CT, ab_CT, col_CT, dd_CT, m0_CT, m1_CT, m2_CT, m3_CT, m5_CT, x_CT, xb_CT⟩, sa_CT, xe_CT, xt_CT, xk_CT⟩, f_CT_kind, a21, t21, F21, b21⟩
  have NU : UnE K mg CU f22 _ := ⟨PySem.W.mg_of X G aCU, ⟨⟨nm_CU, q_CU, N_CU, bs_CU, bm_CU, sn_CU, sub_CU, ab_CU, col_CU, dd_CU, m0_CU, m1_CU, m2_CU, m3_CU, m5_CU, x_CU, xb_CU⟩, sa_CU, xe_CU, xt_CU, xk_CU⟩, f_CU_kind, a22, t22, F22, b22⟩
  have NM : MiE K mg CM f23 _ := ⟨PySem.W.mg_of X G aCM, ⟨⟨nm_CM, q_CM, N_CM, bs_CM, bm_CM, sn_CM, sub_CM, ab_CM, col_CM, dd_CM, m0_CM, m1_CM, m2_CM, m3_CM, m5_CM, x_CM, xb_CM⟩, sa_CM, xe_CM, xt_CM, xk_CM⟩, f_CM_kind, a23, t23, F23, b23⟩
  have ER : Ers K mg CT CU CM CL CS := ⟨PySem.W.mg_of X G aCT, PySem.W.mg_of X G aCU, PySem.W.mg_of X G aCM, PySem.W.mg_of X G aCL, PySem.W.mg_of X G aCS, ⟨hg_CT, hk_CT, xe_CT, hd_CT, ha_CT, hn_CT, ht_CT, hm_CT⟩, f_CT_kind, kv_CT, ks_CT, PySem.W.exm_ref l_xe l_hd l_xt l_T, ⟨hg_CU, hk_CU, xe_CU, hd_CU, ha_CU, hn_CU, ht_CU, hm_CU⟩, f_CU_kind, kv_CU, ks_CU, PySem.W.exm_ref l_xe l_hd l_xt l_U, ⟨hg_CM, hk_CM, xe_CM, hd_CM, ha_CM, hn_CM, ht_CM, hm_CM⟩, f_CM_kind, kv_CM, ks_CM, PySem.W.exm_ref l_xe l_hd l_xt l_M, kT_CT, kU_CT, kM_CT, kT_CU, kU_CU, kM_CU, kT_CM, kU_CM, kM_CM⟩
  have IN : Inn K w RD := inn_mk (es := rges) (n := rgn) ⟨rg_at, rg_lit, rg_low⟩ fun x hx => by
    simp only [tbl, List.mem_cons, List.not_mem_nil, or_false] at hx
    rcases hx with rfl | rfl | rfl | rfl | rfl | rfl | rfl
    · exact ⟨rt0, _, _, _, rk0, rl0, rfl, rfl, by show 2 ≤ sizeLine; decide, .cons ⟨_, rfl⟩ (.cons ⟨_, rfl⟩ .nil)⟩
    · exact ⟨rt1, _, _, _, rk1, rl1, rfl, rfl, by show 4 ≤ sizeLine; decide, .cons ⟨_, rfl⟩ (.cons ⟨_, rfl⟩ (.cons ⟨_, rfl⟩ (.cons ⟨_, rfl⟩ .nil)))⟩
    · exact ⟨rt2, _, _, _, rk2, rl2, rfl, rfl, by show 2 ≤ sizeLine; decide, .cons ⟨_, rfl⟩ (.cons ⟨_, rfl⟩ .nil)⟩
    · exact ⟨rt3, _, _, _, rk3, rl3, rfl, rfl, by show 2 ≤ sizeLine; decide, .cons ⟨_, rfl⟩ (.cons ⟨_, rfl⟩ .nil)⟩
    · exact ⟨rt4, _, _, _, rk4, rl4, rfl, rfl, by show 1 ≤ sizeLine; decide, .cons ⟨_, rfl⟩ .nil⟩
    · exact ⟨rt5, _, _, _, rk5, rl5, rfl, rfl, by show 1 ≤ sizeLine; decide, .cons ⟨_, rfl⟩ .nil⟩
    · exact ⟨rt6, _, _, _, rk6, rl6, rfl, rfl, by show 0 ≤ sizeLine; decide, .nil⟩
  have UU : Usu K UR [⟨v0, T "doc", T "root", j0, [T "head", T "par"]⟩, ⟨v1, T "head", T "head", j1, [T "em", T "see"]⟩, ⟨v2, T "par", T "block", j2, [T "em", T "note", T "fig", T "see"]⟩, ⟨v3, T "em", T "span", j3, [T "em", T "see"]⟩, ⟨v4, T "note", T "note", j4, [T "em"]⟩, ⟨v5, T "fig", T "figure", j5, [T "em"]⟩, ⟨v6, T "see", T "ref", j6, []⟩] := ⟨fun H => .inr ⟨_, _, _, us_l, rfl, rfl, by show 7 ≤ sizeLine; decide, .cons rfl (.cons rfl (.cons rfl (.cons rfl (.cons rfl (.cons rfl (.cons rfl .nil))))))⟩, fun r hr H => by
    simp only [List.mem_cons, List.not_mem_nil, or_false] at hr
    rcases hr with rfl | rfl | rfl | rfl | rfl | rfl | rfl
    · exact ⟨.inr ⟨_, _, _, vl0, rfl, rfl, by show 3 ≤ sizeLine; decide, .cons ⟨_, rfl⟩ (.cons ⟨_, rfl⟩ (.cons rfl .nil))⟩, .inr ⟨_, _, _, jl0, rfl, rfl, by show 2 ≤ sizeLine; decide, .cons ⟨_, rfl⟩ (.cons ⟨_, rfl⟩ .nil)⟩, usN_ok ⟨0, T "doc", T "root", 0, [T "head", T "par"]⟩ (List.mem_cons_self)⟩
    · exact ⟨.inr ⟨_, _, _, vl1, rfl, rfl, by show 3 ≤ sizeLine; decide, .cons ⟨_, rfl⟩ (.cons ⟨_, rfl⟩ (.cons rfl .nil))⟩, .inr ⟨_, _, _, jl1, rfl, rfl, by show 2 ≤ sizeLine; decide, .cons ⟨_, rfl⟩ (.cons ⟨_, rfl⟩ .nil)⟩, usN_ok ⟨0, T "head", T "head", 0, [T "em", T "see"]⟩ ((List.mem_cons_of_mem _ List.mem_cons_self))⟩
    · exact ⟨.inr ⟨_, _, _, vl2, rfl, rfl, by show 3 ≤ sizeLine; decide, .cons ⟨_, rfl⟩ (.cons ⟨_, rfl⟩ (.cons rfl .nil))⟩, .inr ⟨_, _, _, jl2, rfl, rfl, by show 4 ≤ sizeLine; decide, .cons ⟨_, rfl⟩ (.cons ⟨_, rfl⟩ (.cons ⟨_, rfl⟩ (.cons ⟨_, rfl⟩ .nil)))⟩, usN_ok ⟨0, T "par", T "block", 0, [T "em", T "note", T "fig", T "see"]⟩ ((List.mem_cons_of_mem _ (List.mem_cons_of_mem _ List.mem_cons_self)))⟩
    · exact ⟨.inr ⟨_, _, _, vl3, rfl, rfl, by show 3 ≤ sizeLine; decide, .cons ⟨_, rfl⟩ (.cons ⟨_, rfl⟩ (.cons rfl .nil))⟩, .inr ⟨_, _, _, jl3, rfl, rfl, by show 2 ≤ sizeLine; decide, .cons ⟨_, rfl⟩ (.cons ⟨_, rfl⟩ .nil)⟩, usN_ok ⟨0, T "em", T "span", 0, [T "em", T "see"]⟩ ((List.mem_cons_of_mem _ (List.mem_cons_of_mem _ (List.mem_cons_of_mem _ List.mem_cons_self))))⟩
    · exact ⟨.inr ⟨_, _, _, vl4, rfl, rfl, by show 3 ≤ sizeLine; decide, .cons ⟨_, rfl⟩ (.cons ⟨_, rfl⟩ (.cons rfl .nil))⟩, .inr ⟨_, _, _, jl4, rfl, rfl, by show 1 ≤ sizeLine; decide, .cons ⟨_, rfl⟩ .nil⟩, usN_ok ⟨0, T "note", T "note", 0, [T "em"]⟩ ((List.mem_cons_of_mem _ (List.mem_cons_of_mem _ (List.mem_cons_of_mem _ (List.mem_cons_of_mem _ List.mem_cons_self)))))⟩
    · exact ⟨.inr ⟨_, _, _, vl5, rfl, rfl, by show 3 ≤ sizeLine; decide, .cons ⟨_, rfl⟩ (.cons ⟨_, rfl⟩ (.cons rfl .nil))⟩, .inr ⟨_, _, _, jl5, rfl, rfl, by show 1 ≤ sizeLine; decide, .cons ⟨_, rfl⟩ .nil⟩, usN_ok ⟨0, T "fig", T "figure", 0, [T "em"]⟩ ((List.mem_cons_of_mem _ (List.mem_cons_of_mem _ (List.mem_cons_of_mem _ (List.mem_cons_of_mem _ (List.mem_cons_of_mem _ List.mem_cons_self))))))⟩
    · exact ⟨.inr ⟨_, _, _, vl6, rfl, rfl, by show 3 ≤ sizeLine; decide, .cons ⟨_, rfl⟩ (.cons ⟨_, rfl⟩ (.cons rfl .nil))⟩, .inr ⟨_, _, _, jl6, rfl, rfl, by show 0 ≤ sizeLine; decide, .nil⟩, usN_ok ⟨0, T "see", T "ref", 0, []⟩ ((List.mem_cons_of_mem _ (List.mem_cons_of_mem _ (List.mem_cons_of_mem _ (List.mem_cons_of_mem _ (List.mem_cons_of_mem _ (List.mem_cons_of_mem _ List.mem_cons_self)))))))⟩
    , rfl⟩
  have SU : Sta K C pU fU := ⟨⟨u_rd, u_ga⟩, ⟨u_a, plU, u_r⟩, u_k⟩
  have FU := fun_mk (st := sUsual) u_l u_c u_k
  have bU := FU.binds (ps := []) fun _ _ _ _ _ _ us hl => match us, hl with | [], _ => rfl
  have O : ∀ base : Heap, Ops l.prog w K mg base C CU f20 f19 f18 f17 _ _ _ _ := fun base => ⟨⟨a20, i20⟩, ok_iter B Tc F20, b20, ⟨a19, x19⟩, ok_len B Tc F19, b19, ⟨a18, x18⟩, ok_has Tc F18, b18, ⟨a17, x17, i17⟩, ok_get Tc NU F17, b17⟩
  exact ⟨PySem.W.fnOf "law" "law" (defArgs sLaw) (defBody sLaw) (defScope sLaw) .none kV15 dc15 pm15 an15 cd15 ct15, fun s v => .of_eq rfl, fun base _ _ =>
    ok_law B Tc ⟨mkC, a16, i16, kcC⟩ NT NU NM ER IN (PySem.W.mg_of X G aRD) UU (PySem.W.mg_of X G aUR) SU (O base) F15 F1 b1 (PySem.W.mg_of X G a1) F16 b16 FU bU F2 b2 (PySem.W.mg_of X G a2) F3 b3 (PySem.W.mg_of X G a3) F4 b4 (PySem.W.mg_of X G a4) F5 b5 (PySem.W.mg_of X G a5) F6 b6 (PySem.W.mg_of X G a6) F7 b7 (PySem.W.mg_of X G a7) F8 b8 (PySem.W.mg_of X G a8) F9 b9 (PySem.W.mg_of X G a9) F10 b10 (PySem.W.mg_of X G a10) F11 b11 (PySem.W.mg_of X G a11) F12 b12 (PySem.W.mg_of X G a12) F13 b13 (PySem.W.mg_of X G a13) F14 b14 (PySem.W.mg_of X G a14)⟩
end K05
open PySem PySem.W PyProof.Rows
set_option maxRecDepth 100000 in
set_option maxHeartbeats 0 in
theorem PySem.Challenge.cw_laidforall_k05_grammars_holds : PySem.Challenge.rw_laidforall_k05_grammars.Holds := by
  w_on; o_law; k_head; (case hw => w_witness2)
  k_fill
  refine L2.walk_of (l := PySem.Challenge.rw_laidforall_k05_grammars) (n := 63) (k := 7) (x := "_law_script") (CX := fun _ => L2.CX0) (sp := fun w => K05.spLaw _) rfl (by decide) rfl ⟨rfl, by decide, by decide⟩ (fun w h Y => PySem.W.kIn_of Y) ?F (fun _ _ a ns hl _ hS => ⟨a, ns, rfl, hS, hl, fun _ => rfl⟩) (fun _ _ _ _ _ h => h)
  case F =>
    intro w mg fa h KX G hmg
    refine' K05.all_mk KX G hmg ?zz_aC ?zz_pgC ?zz_hdC ?zz_poC ?zz_saC ?zz_mkC ?zz_kcC ?zz_nC_root ?zz_nC_rows ?zz_aCL ?zz_aCS ?zz_aRD ?zz_aUR ?zz_aCT ?zz_x_CT ?zz_xb_CT ?zz_sa_CT ?zz_xe_CT ?zz_xt_CT ?zz_xk_CT ?zz_f_CT_kind ?zz_hg_CT ?zz_hk_CT ?zz_hd_CT ?zz_ha_CT ?zz_hn_CT ?zz_ht_CT ?zz_hm_CT ?zz_ls_CT ?zz_aCU ?zz_x_CU ?zz_xb_CU ?zz_sa_CU ?zz_xe_CU ?zz_xt_CU ?zz_xk_CU ?zz_f_CU_kind ?zz_hg_CU ?zz_hk_CU ?zz_hd_CU ?zz_ha_CU ?zz_hn_CU ?zz_ht_CU ?zz_hm_CU ?zz_ls_CU ?zz_aCM ?zz_x_CM ?zz_xb_CM ?zz_sa_CM ?zz_xe_CM ?zz_xt_CM ?zz_xk_CM ?zz_f_CM_kind ?zz_hg_CM ?zz_hk_CM ?zz_hd_CM ?zz_ha_CM ?zz_hn_CM ?zz_ht_CM ?zz_hm_CM ?zz_ls_CM ?zz_kv_CT ?zz_ks_CT ?zz_kT_CT ?zz_kU_CT ?zz_kM_CT ?zz_kv_CU ?zz_ks_CU ?zz_kT_CU ?zz_kU_CU ?zz_kM_CU ?zz_kv_CM ?zz_ks_CM ?zz_kT_CM ?zz_kU_CM ?zz_kM_CM ?zz_l_xe ?zz_l_hd ?zz_l_xt ?zz_l_T ?zz_l_U ?zz_l_M ?zz_u_a ?zz_u_r ?zz_u_l ?zz_u_c ?zz_u_k ?zz_u_rd ?zz_u_ga ?zz_rg_at ?zz_rg_lit ?zz_rg_low ?zz_rk0 ?zz_rl0 ?zz_rk1 ?zz_rl1 ?zz_rk2 ?zz_rl2 ?zz_rk3 ?zz_rl3 ?zz_rk4 ?zz_rl4 ?zz_rk5 ?zz_rl5 ?zz_rk6 ?zz_rl6 ?zz_us_l ?zz_vl0 ?zz_jl0 ?zz_vl1 ?zz_jl1 ?zz_vl2 ?zz_jl2 ?zz_vl3 ?zz_jl3 ?zz_vl4 ?zz_jl4 ?zz_vl5 ?zz_jl5 ?zz_vl6 ?zz_jl6 ?zz_a1 ?zz_l1 ?zz_c1 ?zz_k1 ?zz_a2 ?zz_l2 ?zz_c2 ?zz_k2 ?zz_a3 ?zz_l3 ?zz_c3 ?zz_k3 ?zz_a4 ?zz_l4 ?zz_c4 ?zz_k4 ?zz_a5 ?zz_l5 ?zz_c5 ?zz_k5 ?zz_a6 ?zz_l6 ?zz_c6 ?zz_k6 ?zz_a7 ?zz_l7 ?zz_c7 ?zz_k7 ?zz_a8 ?zz_l8 ?zz_c8 ?zz_k8 ?zz_a9 ?zz_l9 ?zz_c9 ?zz_k9 ?zz_a10 ?zz_l10 ?zz_c10 ?zz_k10 ?zz_a11 ?zz_l11 ?zz_c11 ?zz_k11 ?zz_a12 ?zz_l12 ?zz_c12 ?zz_k12 ?zz_a13 ?zz_l13 ?zz_c13 ?zz_k13 ?zz_a14 ?zz_l14 ?zz_c14 ?zz_k14 ?zz_a15 ?zz_l15 ?zz_c15 ?zz_k15 ?zz_a16 ?zz_i16 ?zz_l16 ?zz_c16 ?zz_k16 ?zz_a17 ?zz_i17 ?zz_x17 ?zz_l17 ?zz_c17 ?zz_k17 ?zz_a18 ?zz_i18 ?zz_x18 ?zz_l18 ?zz_c18 ?zz_k18 ?zz_a19 ?zz_i19 ?zz_x19 ?zz_l19 ?zz_c19 ?zz_k19 ?zz_a20 ?zz_i20 ?zz_l20 ?zz_c20 ?zz_k20 ?zz_a21 ?zz_l21 ?zz_c21 ?zz_k21 ?zz_t21 ?zz_a22 ?zz_l22 ?zz_c22 ?zz_k22 ?zz_t22 ?zz_a23 ?zz_l23 ?zz_c23 ?zz_k23 ?zz_t23 ?zz_z0 ?zz_z1 ?zz_z2 ?zz_z3 ?zz_z4 ?zz_z5 ?zz_z6 ?zz_z7 ?zz_z8 ?zz_z9 ?zz_z10 ?zz_z11
    (case zz_aC => first | k_is | rfl)
    (case zz_pgC => first | k_is | rfl)
    (case zz_hdC => first | k_is | rfl)
    (case zz_poC => first | k_is | rfl)
    (case zz_saC => first | k_is | rfl)
    (case zz_mkC => first | k_is | rfl)
    (case zz_kcC => first | k_is | rfl)
    (case zz_nC_root => first | k_is | rfl)
    (case zz_nC_rows => first | k_is | rfl)
    (case zz_aCL => first | k_is | rfl)
    (case zz_aCS => first | k_is | rfl)
    (case zz_aRD => first | k_is | rfl)
    (case zz_aUR => first | k_is | rfl)
    (case zz_aCT => first | k_is | rfl)
    (case zz_x_CT => first | k_is | rfl)
    (case zz_xb_CT => decide +kernel)
    (case zz_sa_CT => first | k_is | rfl)
    (case zz_xe_CT => first | k_is | rfl)
    (case zz_xt_CT => first | k_is | rfl)
    (case zz_xk_CT => first | k_is | rfl)
    (case zz_f_CT_kind => first | k_is | rfl)
    (case zz_hg_CT => first | k_is | rfl)
    (case zz_hk_CT => first | k_is | rfl)
    (case zz_hd_CT => first | k_is | rfl)
    (case zz_ha_CT => first | k_is | rfl)
    (case zz_hn_CT => first | k_is | rfl)
    (case zz_ht_CT => first | k_is | rfl)
    (case zz_hm_CT => first | k_is | rfl)
    (case zz_ls_CT => first | k_is | rfl)
    (case zz_aCU => first | k_is | rfl)
    (case zz_x_CU => first | k_is | rfl)
    (case zz_xb_CU => decide +kernel)
    (case zz_sa_CU => first | k_is | rfl)
    (case zz_xe_CU => first | k_is | rfl)
    (case zz_xt_CU => first | k_is | rfl)
    (case zz_xk_CU => first | k_is | rfl)
    (case zz_f_CU_kind => first | k_is | rfl)
    (case zz_hg_CU => first | k_is | rfl)
    (case zz_hk_CU => first | k_is | rfl)
    (case zz_hd_CU => first | k_is | rfl)
    (case zz_ha_CU => first | k_is | rfl)
    (case zz_hn_CU => first | k_is | rfl)
    (case zz_ht_CU => first | k_is | rfl)
    (case zz_hm_CU => first | k_is | rfl)
    (case zz_ls_CU => first | k_is | rfl)
    (case zz_aCM => first | k_is | rfl)
    (case zz_x_CM => first | k_is | rfl)
    (case zz_xb_CM => decide +kernel)
    (case zz_sa_CM => first | k_is | rfl)
    (case zz_xe_CM => first | k_is | rfl)
    (case zz_xt_CM => first | k_is | rfl)
    (case zz_xk_CM => first | k_is | rfl)
    (case zz_f_CM_kind => first | k_is | rfl)
    (case zz_hg_CM => first | k_is | rfl)
    (case zz_hk_CM => first | k_is | rfl)
    (case zz_hd_CM => first | k_is | rfl)
    (case zz_ha_CM => first | k_is | rfl)
    (case zz_hn_CM => first | k_is | rfl)
    (case zz_ht_CM => first | k_is | rfl)
    (case zz_hm_CM => first | k_is | rfl)
    (case zz_ls_CM => first | k_is | rfl)
    (case zz_kv_CT => first | k_is | rfl)
    (case zz_ks_CT => first | k_is | rfl)
    (case zz_kT_CT => first | k_is | rfl)
    (case zz_kU_CT => first | k_is | rfl)
    (case zz_kM_CT => first | k_is | rfl)
    (case zz_kv_CU => first | k_is | rfl)
    (case zz_ks_CU => first | k_is | rfl)
    (case zz_kT_CU => first | k_is | rfl)
    (case zz_kU_CU => first | k_is | rfl)
    (case zz_kM_CU => first | k_is | rfl)
    (case zz_kv_CM => first | k_is | rfl)
    (case zz_ks_CM => first | k_is | rfl)
    (case zz_kT_CM => first | k_is | rfl)
    (case zz_kU_CM => first | k_is | rfl)
    (case zz_kM_CM => first | k_is | rfl)
    (case zz_l_xe => first | k_is | rfl)
    (case zz_l_hd => first | k_is | rfl)
    (case zz_l_xt => first | k_is | rfl)
    (case zz_l_T => first | k_is | rfl)
    (case zz_l_U => first | k_is | rfl)
    (case zz_l_M => first | k_is | rfl)
    (case zz_u_a => first | k_is | rfl)
    (case zz_u_r => first | k_is | rfl)
    (case zz_u_l => first | k_is | rfl)
    (case zz_u_c => first | k_is | rfl)
    (case zz_u_k => first | k_is | rfl)
    (case zz_u_rd => first | k_is | rfl)
    (case zz_u_ga => first | k_is | rfl)
    (case zz_rg_at => first | k_is | rfl)
    (case zz_rg_lit => exact ⟨⟨_, _, rfl, rfl⟩, ⟨_, _, rfl, rfl⟩, ⟨_, _, rfl, rfl⟩, ⟨_, _, rfl, rfl⟩, ⟨_, _, rfl, rfl⟩, ⟨_, _, rfl, rfl⟩, ⟨_, _, rfl, rfl⟩, trivial⟩)
    (case zz_rg_low => first | k_is | rfl)
    (case zz_rk0 => first | k_is | rfl)
    (case zz_rl0 => first | k_is | rfl)
    (case zz_rk1 => first | k_is | rfl)
    (case zz_rl1 => first | k_is | rfl)
    (case zz_rk2 => first | k_is | rfl)
    (case zz_rl2 => first | k_is | rfl)
    (case zz_rk3 => first | k_is | rfl)
    (case zz_rl3 => first | k_is | rfl)
    (case zz_rk4 => first | k_is | rfl)
    (case zz_rl4 => first | k_is | rfl)
    (case zz_rk5 => first | k_is | rfl)
    (case zz_rl5 => first | k_is | rfl)
    (case zz_rk6 => first | k_is | rfl)
    (case zz_rl6 => first | k_is | rfl)
    (case zz_us_l => first | k_is | rfl)
    (case zz_vl0 => first | k_is | rfl)
    (case zz_jl0 => first | k_is | rfl)
    (case zz_vl1 => first | k_is | rfl)
    (case zz_jl1 => first | k_is | rfl)
    (case zz_vl2 => first | k_is | rfl)
    (case zz_jl2 => first | k_is | rfl)
    (case zz_vl3 => first | k_is | rfl)
    (case zz_jl3 => first | k_is | rfl)
    (case zz_vl4 => first | k_is | rfl)
    (case zz_jl4 => first | k_is | rfl)
    (case zz_vl5 => first | k_is | rfl)
    (case zz_jl5 => first | k_is | rfl)
    (case zz_vl6 => first | k_is | rfl)
    (case zz_jl6 => first | k_is | rfl)
    (case zz_a1 => first | k_is | rfl)
    (case zz_l1 => first | k_is | rfl)
    (case zz_c1 => first | k_is | rfl)
    (case zz_k1 => first | k_is | rfl)
    (case zz_a2 => first | k_is | rfl)
    (case zz_l2 => first | k_is | rfl)
    (case zz_c2 => first | k_is | rfl)
    (case zz_k2 => first | k_is | rfl)
    (case zz_a3 => first | k_is | rfl)
    (case zz_l3 => first | k_is | rfl)
    (case zz_c3 => first | k_is | rfl)
    (case zz_k3 => first | k_is | rfl)
    (case zz_a4 => first | k_is | rfl)
    (case zz_l4 => first | k_is | rfl)
    (case zz_c4 => first | k_is | rfl)
    (case zz_k4 => first | k_is | rfl)
    (case zz_a5 => first | k_is | rfl)
    (case zz_l5 => first | k_is | rfl)
    (case zz_c5 => first | k_is | rfl)
    (case zz_k5 => first | k_is | rfl)
    (case zz_a6 => first | k_is | rfl)
    (case zz_l6 => first | k_is | rfl)
    (case zz_c6 => first | k_is | rfl)
    (case zz_k6 => first | k_is | rfl)
    (case zz_a7 => first | k_is | rfl)
    (case zz_l7 => first | k_is | rfl)
    (case zz_c7 => first | k_is | rfl)
    (case zz_k7 => first | k_is | rfl)
    (case zz_a8 => first | k_is | rfl)
    (case zz_l8 => first | k_is | rfl)
    (case zz_c8 => first | k_is | rfl)
    (case zz_k8 => first | k_is | rfl)
    (case zz_a9 => first | k_is | rfl)
    (case zz_l9 => first | k_is | rfl)
    (case zz_c9 => first | k_is | rfl)
    (case zz_k9 => first | k_is | rfl)
    (case zz_a10 => first | k_is | rfl)
    (case zz_l10 => first | k_is | rfl)
    (case zz_c10 => first | k_is | rfl)
    (case zz_k10 => first | k_is | rfl)
    (case zz_a11 => first | k_is | rfl)
    (case zz_l11 => first | k_is | rfl)
    (case zz_c11 => first | k_is | rfl)
    (case zz_k11 => first | k_is | rfl)
    (case zz_a12 => first | k_is | rfl)
    (case zz_l12 => first | k_is | rfl)
    (case zz_c12 => first | k_is | rfl)
    (case zz_k12 => first | k_is | rfl)
    (case zz_a13 => first | k_is | rfl)
    (case zz_l13 => first | k_is | rfl)
    (case zz_c13 => first | k_is | rfl)
    (case zz_k13 => first | k_is | rfl)
    (case zz_a14 => first | k_is | rfl)
    (case zz_l14 => first | k_is | rfl)
    (case zz_c14 => first | k_is | rfl)
    (case zz_k14 => first | k_is | rfl)
    (case zz_a15 => first | k_is | rfl)
    (case zz_l15 => first | k_is | rfl)
    (case zz_c15 => first | k_is | rfl)
    (case zz_k15 => first | k_is | rfl)
    (case zz_a16 => first | k_is | rfl)
    (case zz_i16 => first | k_is | rfl)
    (case zz_l16 => first | k_is | rfl)
    (case zz_c16 => first | k_is | rfl)
    (case zz_k16 => first | k_is | rfl)
    (case zz_a17 => first | k_is | rfl)
    (case zz_i17 => first | k_is | rfl)
    (case zz_x17 => first | k_is | rfl)
    (case zz_l17 => first | k_is | rfl)
    (case zz_c17 => first | k_is | rfl)
    (case zz_k17 => first | k_is | rfl)
    (case zz_a18 => first | k_is | rfl)
    (case zz_i18 => first | k_is | rfl)
    (case zz_x18 => first | k_is | rfl)
    (case zz_l18 => first | k_is | rfl)
    (case zz_c18 => first | k_is | rfl)
    (case zz_k18 => first | k_is | rfl)
    (case zz_a19 => first | k_is | rfl)
    (case zz_i19 => first | k_is | rfl)
    (case zz_x19 => first | k_is | rfl)
    (case zz_l19 => first | k_is | rfl)
    (case zz_c19 => first | k_is | rfl)
    (case zz_k19 => first | k_is | rfl)
    (case zz_a20 => first | k_is | rfl)
    (case zz_i20 => first | k_is | rfl)
    (case zz_l20 => first | k_is | rfl)
    (case zz_c20 => first | k_is | rfl)
    (case zz_k20 => first | k_is | rfl)
    (case zz_a21 => first | k_is | rfl)
    (case zz_l21 => first | k_is | rfl)
    (case zz_c21 => first | k_is | rfl)
    (case zz_k21 => first | k_is | rfl)
    (case zz_t21 => first | k_is | rfl)
    (case zz_a22 => first | k_is | rfl)
    (case zz_l22 => first | k_is | rfl)
    (case zz_c22 => first | k_is | rfl)
    (case zz_k22 => first | k_is | rfl)
    (case zz_t22 => first | k_is | rfl)
    (case zz_a23 => first | k_is | rfl)
    (case zz_l23 => first | k_is | rfl)
    (case zz_c23 => first | k_is | rfl)
    (case zz_k23 => first | k_is | rfl)
    (case zz_t23 => first | k_is | rfl)
    (case zz_z0 => first | k_is | rfl)
    (case zz_z1 => first | k_is | rfl)
    (case zz_z2 => first | k_is | rfl)
    (case zz_z3 => first | k_is | rfl)
    (case zz_z4 => first | k_is | rfl)
    (case zz_z5 => first | k_is | rfl)
    (case zz_z6 => first | k_is | rfl)
    (case zz_z7 => first | k_is | rfl)
    (case zz_z8 => first | k_is | rfl)
    (case zz_z9 => first | k_is | rfl)
    (case zz_z10 => first | k_is | rfl)
    (case zz_z11 => first | k_is | rfl)

