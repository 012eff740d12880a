import PyProof.Rows.All
import Wide.All
import OpenK.AllK
import Wide.FinOn
import HandS.ForMost
import HandS.OwnIter
import HandS.IterNext
import HandS.IterVal
import HandS.Call
import HandS.ExcOwn
import HandS.Exc
import HandS.Star
import HandS.MakeKw
import PyProof.Rows.CallKw2
import HandS.Dict
import HandS.Iter
import HandS.ExcInit
import HandS.ExcCtx
import HandS.HotCalls
import HandS.Words
import HandS.WordsExc
import KE.KIsAll
import KE.KTryMore
import HandS.ForExc
import HandS.ExcIs
import HandS.ExcField
import HandS.IsInst
import HandS.TupAny
import HandS.Walk
import HandS.NoneIn
import HandS.Evl
import HandS.FStr
import HandS.Text
import HandS.StrMore
import HandS.More
import HandS.Deep
import HandS.Codes
import HandS.Conv
import PySem.Challenge.RW_laidforall_k24_faces
set_option Elab.async false
set_option linter.all false
set_option maxRecDepth 100000
set_option maxHeartbeats 2000000
namespace RO
open PySem PySem.Spec PyProof.Rows L2 ItX
/-! ### a def whose promise knows how large the heap was -/
structure FnN (P : Program) (w : World) (K : PySem.W.Frag) (mg : Str → Option Value) (base : Heap) (CX : CXT) (k : Nat) (f : Addr) (fd : FuncData) (ps : List Str) (sp : Nat → Sp) : Prop where
  len : ∀ n vs H Q E, sp n vs H Q E → vs.length = ps.length
  run : ∀ (A : Around) (outer : List Env) (s : Shared) (H : Hp) (args : Args) (us : List Value) (vs : List V) (Q : VK) (E : XK), Room k A → Env0 P w K mg base A outer s H → BindsTo s fd args (ps.zip us) → Vals vs us → sp s.heap.objs.size vs H Q E →
    codeAny (model P w) A (.call (.ref f) args) (CR CX outer P w H s Q E) s
theorem fn_ofN {CX : CXT} {P : Program} {w : World} {K : PySem.W.Frag} {mg : Str → Option Value} {base : Heap} {k : Nat} {f : Addr} {name qual : Str} {params : Arguments} {body : List Stmt} {scope : Scope} {dV kV doc pm cdv ct oc : Value} {an od : Option Addr}
    {osl : Array (Option Value)} {N ps : List Str} {sp : Nat → Sp} (lk : K.lookup f = some ⟨oc, od, .func (PySem.W.fnOf name qual params body scope dV kV doc pm an cdv ct), osl⟩) (hcd : PySem.W.codeIn K cdv qual = true) (S : FnScope N ps scope)
    (len : ∀ n vs H Q E, sp n vs H Q E → vs.length = ps.length)
    (hbody : ∀ (A : Around) (outer : List Env) (s : Shared) (H : Hp) (vs : List V) (Q : VK) (E : XK), Room k (A.deeper (envOfC qual scope s.heap.objs.size f cdv)) → sp s.heap.objs.size vs H Q E →
      ∃ t, PSs (cxOf CX P w K mg base N qual scope f cdv A outer s H E) body t ∧ t { nx := fun _ H' => Q .non H', rt := Q } (start N vs) H) :
    FnN P w K mg base CX (k + 1) f (PySem.W.fnOf name qual params body scope dV kV doc pm an cdv ct) ps sp := by
  refine ⟨len, fun A outer s H args us vs Q E hr e0 hb r hsp => ?_⟩
  have hl := len _ _ _ _ _ hsp
  have KX : K.In s.heap := e0.mod.kin.keeps fun b o e => (e0.bs b o e).1
  have lim : s.heap.NoLimit := e0.mod.nolimit.keeps fun b o e => (e0.bs b o e).1
  have hkind : ∀ y ∈ ps.zip us, scope.names.lookup y.1 = some .local ∨ (scope.names.lookup y.1 = some .cell ∧ ((cellsFrom (s.heap.objs.size + 1) scope.names []).lookup y.1).isSome = true) := fun ⟨n, v⟩ hy => by
    rcases S.par n (List.of_mem_zip hy).1 with q | q
    · exact .inl q
    · exact .inr ⟨q, PySem.W.cellsFrom_some _ _ _ (.inl q)⟩
  refine codeAny_call_function hr.depth (KX _ _ lk) rfl S.co S.gen rfl (PySem.W.codeRec_of KX hcd) (hb _ _ _ _ ?_)
  refine wpAny_newFunctionEnv_cells S.kind hkind fun env he s1 x => ?_
  subst he
  refine ⟨lim.keeps x.toInCall.keep, codeAny_func ?_⟩
  obtain ⟨t, ht, hq⟩ := hbody A outer s H vs Q E (hr.deeper _) hsp
  have I : Inv (cxOf CX P w K mg base N qual scope f cdv A outer s H E) [] (start N vs) H s1 := inv_start S hr.hd e0 hl r x
  refine wpAny_mono (ht.run [] s1 (start N vs) H _ I hq) (fun fl s' hs => ?_) fun e s' hs => hs
  have fin : ∀ {σ' : L2.St} {H' : Hp} {v : V} {u : Value}, Inv (cxOf CX P w K mg base N qual scope f cdv A outer s H E) [] σ' H' s' → RelV v u → Q v H' → CE outer P w H s Q u s' :=
    fun {σ' H' v u} J rv q => ⟨v, H', J.os, J.bare, J.base, J.hok, rv, q⟩
  cases fl with
  | ret u =>
    obtain ⟨v, σ', H', J, rv, q⟩ := hs
    exact fin J rv q
  | next =>
    obtain ⟨σ', H', J, q⟩ := hs
    exact fin (v := V.non) (u := Value.none) J rfl q
  | brk =>
    obtain ⟨_, _, _, q⟩ := hs
    exact False.elim q
  | cont =>
    obtain ⟨_, _, _, q⟩ := hs
    exact False.elim q
section
variable {P : Program} {w : World} {K : PySem.W.Frag} {mg : Str → Option Value} {base : Heap}
theorem fun_okN {x qual : Str} {st : Stmt} {f : Addr} {fd : FuncData} {N ps : List Str} {k : Nat} {sp : Nat → Sp} (F : Fun K x qual st f fd) (S : FnScope N ps (defScope st)) (len : ∀ n vs H Q E, sp n vs H Q E → vs.length = ps.length)
    (hbody : ∀ (cdv : Value) (A : Around) (outer : List Env) (s : Shared) (H : Hp) (vs : List V) (Q : VK) (E : XK), Room k (A.deeper (envOfC qual (defScope st) s.heap.objs.size f cdv)) → sp s.heap.objs.size vs H Q E →
      ∃ t, PSs (cxOf CX0 P w K mg base N qual (defScope st) f cdv A outer s H E).nox (defBody st) t ∧ t { nx := fun _ H' => Q .non H', rt := Q } (start N vs) H) : FnN P w K mg base CX0 (k + 1) f fd ps sp := by
  obtain ⟨oc, od, kV, doc, pm, an, cdv, ct, osl, rfl, lk, hcd⟩ := F.ex
  refine fn_ofN lk hcd S len fun A outer s H vs Q E hr hsp => ?_
  obtain ⟨t, h, q⟩ := hbody cdv A outer s H vs Q E hr hsp
  exact ⟨t, h.nox, q⟩
end
/-- __iter__ hands back a new iterator over the list in a field -/
def spIt (C : Addr) (fld : Str) (n : Nat) : Sp := fun vs H Q _ => ∃ (p dx l : Addr) (fs : List (Str × V)), vs = [.ref p] ∧ H p = some (.ins C dx fs) ∧ fs.lookup fld = some (.ref l) ∧ (∃ zs, H l = some (.lst zs)) ∧ ∀ it, H it = none → n ≤ it → Q (.ref it) (upd H it (ItO l it 0))
/-- what a class with such an __iter__ has -/
structure ItrC (X : Cx) (C fi : Addr) (fdI : FuncData) (fld : Str) (k : Nat) : Prop where
  it : PySem.W.findIn X.K (.ref C) "__iter__" = some (some (.ref fi))
  itF : PySem.W.isFn X.K (.ref fi) = true
  fn : FnN X.prog X.w X.K X.mg X.base CX0 k fi fdI ["self"] (spIt C fld)
  bi : Binds X.K fdI ["self"] []
section
variable {X : Cx} {pins : List (Addr × Obj)} {σ : L2.St} {H : Hp} {s : Shared} {A1 : Around} {C fi fl p dx l : Addr} {fdI fdL : FuncData} {fld : Str} {k : Nat} {fs : List (Str × V)} {zs : List V}
theorem env_sub (I : Inv X pins σ H s) (sb : Sub X k A1) : Env0 X.prog X.w X.K X.mg X.base A1 X.stack s H := by
  have e := I.env0
  exact ⟨by rw [sb.fr]; exact e.frames, e.mod, e.bs, e.bsz, e.funs, e.frf, e.hok, e.bare⟩
/-- iter(o) -/
theorem own_iter {Q : Value → Shared → Prop} (sb : Sub X k A1) (c : ItrC X C fi fdI fld k) (I : Inv X pins σ H s) (hp : H p = some (.ins C dx fs)) (hf : fs.lookup fld = some (.ref l)) (hl : H l = some (.lst zs))
    (h : ∀ it s', H it = none → s.heap.objs.size ≤ it → s'.heap.IsListIter it l 0 → s'.heap.get? it = some (GNX.itObj l 0) → Inv X pins σ H s' → Q (.ref it) s') : wpAny (model X.prog X.w) A1 (pyIter (.ref p)) Q X.xe s := by
  obtain ⟨mA, J, _⟩ := ins_get I.hok hp
  obtain ⟨od, J, _⟩ := J.look
  obtain ⟨m0, hF⟩ := I.fr
  refine PySem.W.owit_iter hF I.ok.mod.kin J c.it c.itF ?_
  have hsp : spIt C fld s.heap.objs.size [.ref p] H (fun v H' => ∃ it, v = .ref it ∧ H it = none ∧ s.heap.objs.size ≤ it ∧ H' = upd H it (ItO l it 0)) E0 := ⟨p, dx, l, fs, rfl, hp, hf, ⟨zs, hl⟩, fun it h1 h2 => ⟨it, rfl, h1, h2, rfl⟩⟩
  have r2 : Vals [V.ref p] [Value.ref p] := .cons rfl .nil
  refine wpAny_call (codeAny_mono (c.fn.run A1 X.stack s H ⟨[.ref p], []⟩ [.ref p] [.ref p] _ E0 sb.room (env_sub I sb) (by
    have := c.bi s [.ref p] I.kIn rfl
    simpa using this) r2 hsp) fun r s' hq => ?_)
  cases r with
  | error e => exact absurd hq (fun z => z.elim)
  | ok fl =>
    cases fl with
    | next => exact False.elim hq
    | brk => exact False.elim hq
    | cont => exact False.elim hq
    | ret u =>
      obtain ⟨v, H', I', rv, it, rfl, hn, hsz, rfl⟩ := I.after hq
      cases rv
      have eo := itO_get I' upd_same
      have I2 := inv_drop I' (show upd H it (ItO l it 0) it = some (.ext _) from upd_same)
      rw [dropH_upd hn] at I2
      have hT : s'.TypeIs (.ref it) "list_iterator" := ⟨_, eo, rfl⟩
      unfold PySem.W.OwitIt
      exact wpAny_specialOf (name := Str.ofString "__next__") hT slot_listiter_next.lookup (h it s' hn hsz ⟨_, eo, rfl, rfl⟩ eo I2)
/-- len(o) by an own __len__ that only tells -/
theorem own_len {Q : Value → Shared → Prop} {E' : Value → Shared → Prop} {sp : Sp} {m : Nat} (sb : Sub X k A1.in1) (hlen : PySem.W.findIn X.K (.ref C) "__len__" = some (some (.ref fl))) (hf : PySem.W.typeIn X.K (.ref fl) = some (.type "function")) (F : FnOk X.prog X.w X.K X.mg X.base CX0 k fl fdL ["self"] sp) (b : Binds X.K fdL ["self"] [])
    (I : Inv X pins σ H s) (hp : H p = some (.ins C dx fs)) (hm : m ≤ sizeLine) (hsp : sp [.ref p] H (fun v H' => v = .int (m : Int) ∧ H' = H) E0)
    (h : ∀ t s', Inv X pins σ H s' → Q (.int (m : Int) t) s') : wpAny (model X.prog X.w) A1 (call (.builtin "len") [.ref p]) Q E' s := by
  obtain ⟨mA, J, _⟩ := ins_get I.hok hp
  obtain ⟨od, J, _⟩ := J.look
  refine Calls.call_function_entry kind_len plain_len entry_len (args_len1 _) ?_
  unfold Builtin.«len»
  refine wpAny_bind (m := oneArg "len" _) (wpAny_pure ?_)
  have r2 : Vals [V.ref p] [Value.ref p] := .cons rfl .nil
  refine wpAny_bind (m := callSpecial? (.ref p) (PySem.Str.ofString "__len__")) (PySem.W.special_fn I.kIn J hlen hf ?_)
  refine wpAny_call (codeAny_mono (F.run A1.in1 X.stack s H ⟨[.ref p], []⟩ [.ref p] [.ref p] _ E0 sb.room (env_sub I sb) (by
    have := b s [.ref p] I.kIn rfl
    simpa using this) r2 hsp) fun r s' hq => ?_)
  cases r with
  | error e => exact absurd hq (fun z => z.elim)
  | ok fl =>
    cases fl with
    | next => exact False.elim hq
    | brk => exact False.elim hq
    | cont => exact False.elim hq
    | ret u =>
      obtain ⟨v, H', I', rv, rfl, rfl⟩ := I.after hq
      obtain ⟨t, rfl⟩ := rv
      have hs : sizeLine = 16777216 := sizeLine_eq
      refine wpAny_bind (wpAny_holding (wpAny_pure ?_))
      refine wpAny_bind (wpAny_letGo ?_)
      show wpAny _ _ (if ((m : Nat) : Int) < 0 then _ else _) _ _ _
      rw [if_neg (by omega)]
      show wpAny _ _ (if ((m : Nat) : Int) ≥ 2 ^ 63 then _ else _) _ _ _
      rw [if_neg (by omega)]
      exact wpAny_bind (wpAny_mkInt (wpAny_pure ⟨_, rfl, h _ _ (I'.tok _)⟩))
end
section
variable {X : Cx} {C fi fl : Addr} {fdI fdL : FuncData} {fld : Str} {k : Nat}
/-! ### for x in o -/
def iOwnL (C : Addr) (fld : Str) (K : PySem.W.Frag) (te : TE) : TI := fun σ H R => te σ H fun v H1 => ∃ (p dx l : Addr) (fs : List (Str × V)) (zs : List V), v = .ref p ∧ H1 p = some (.ins C dx fs) ∧ fs.lookup fld = some (.ref l) ∧ H1 l = some (.lst zs) ∧ R (Itl K l) H1
theorem pi_ownL {tg e : Expr} {te : TE} (c : ItrC X C fi fdI fld k) (hr : Room k X.A) (he : PE X e te) : PI X tg e (iOwnL C fld X.K te) := by
  refine ⟨fun pins s σ H R I h => ?_⟩
  refine thn (he.run pins s σ H _ I h) fun v s1 ⟨y, H1, I1, ry, p, dx, l, fs, zs, ey, hp, hf, hl, q⟩ => ?_
  subst ey
  cases ry
  refine own_iter (⟨hr, rfl⟩ : Sub X k X.A) c I1 hp hf hl fun it s' hn hsz hli eo I' => ?_
  exact ⟨it, [it], _, _, H1, rfl, I', turn_list l it, hli, fun b hb => by rw [List.mem_singleton.mp hb]; exact I1.fpOk hsz hn, q⟩
/-! ### len(o) -/
theorem call_lenOwn {sp : Sp} (hlen : PySem.W.findIn X.K (.ref C) "__len__" = some (some (.ref fl))) (hf : PySem.W.typeIn X.K (.ref fl) = some (.type "function")) (F : FnOk X.prog X.w X.K X.mg X.base CX0 k fl fdL ["self"] sp) (b : Binds X.K fdL ["self"] []) (hr : Room (k + 1) X.A) :
    CallR X (.builtin "len") (fun xs H Q => ∃ (p dx : Addr) (fs : List (Str × V)) (m : Nat), xs = [.ref p] ∧ H p = some (.ins C dx fs) ∧ m ≤ sizeLine ∧ sp [.ref p] H (fun v H' => v = .int (m : Int) ∧ H' = H) E0 ∧ Q (.int (m : Int)) H) := by
  intro pins s σ H xs us Q I r h
  obtain ⟨p, dx, fs, m, rfl, hp, hm, hsp, q⟩ := h
  obtain ⟨u, rfl, ru⟩ := vals1 r
  obtain rfl : u = Value.ref p := ru
  exact own_len (Sub.in1 (⟨hr, rfl⟩ : Sub X (k + 1) X.A)) hlen hf F b I hp hm hsp fun t s' I' => ⟨.int (m : Int), H, I', ⟨_, rfl⟩, q⟩
end
end RO

set_option maxRecDepth 100000
set_option maxHeartbeats 2000000
namespace RO
open PySem PySem.Spec PyProof.Rows L2 ItX
/-! ### list(o) -/
/-- what a class with an own __iter__ and __len__ has -/
structure LenC (X : Cx) (C fl : Addr) (fdL : FuncData) (sp : Sp) (k : Nat) : Prop where
  at_ : PySem.W.findIn X.K (.ref C) "__len__" = some (some (.ref fl))
  ty : PySem.W.typeIn X.K (.ref fl) = some (.type "function")
  fn : FnOk X.prog X.w X.K X.mg X.base CX0 k fl fdL ["self"] sp
  bi : Binds X.K fdL ["self"] []
section
variable {X : Cx} {pins : List (Addr × Obj)} {σ : L2.St} {H : Hp} {s : Shared} {A1 : Around} {C fi fl p dx l q it : Addr} {fdI fdL : FuncData} {fld : Str} {k : Nat} {fs : List (Str × V)} {zs : List V}
theorem ext_loop {Rs : Result → Shared → Prop} (hh : A1.in1.handled = none) (nql : l ≠ q) (hl : H l = some (.lst zs)) (hsz : zs.length < sizeLine) (hq0 : H q = some (.lst []))
    (hdone : ∀ s, Inv X pins σ (upd H q (.lst zs)) s → Rs (.ok (.ret .none)) s) :
    ∀ (n i : Nat) (s : Shared), n + i = zs.length → Inv X pins σ (upd H q (.lst (zs.take i))) s → s.heap.IsListIter it l i → FpOk X pins H it →
      codeAny (model X.prog X.w) A1 (.builtin "list.extend.loop" ⟨[.ref q, .ref it, .none], []⟩) Rs s := by
  intro n
  induction n with
  | zero =>
    intro i s hi I st fp
    refine codeAny_builtin PySem.F.entry_extend_loop ?_
    rw [Around.under_plainId PySem.F.plain_extend_loop _]
    show wpAny _ A1.in1 (pyNext (.ref it) >>= _) _ _ s
    have hl' : upd H q (.lst (zs.take i)) l = some (.lst zs) := by rw [upd_ne nql]; exact hl
    obtain ⟨its, rv, pl, _⟩ := I.list (SqL.of (K := X.K) hl')
    have hlen := rv.length
    obtain ⟨f0, f1, f2, f3, f4, f5⟩ := fp
    have niq : it ≠ q := fun e => by rw [e, hq0] at f0; cases f0
    have e1 : zs.take i = zs := List.take_of_length_le (by omega)
    refine wpAny_bind (wpAny_pyNext_list_end hh st pl.isList (by simp; omega) fun h' eb => ?_)
    rw [e1] at I
    have I' : Inv X pins σ (upd H q (.lst zs)) { s with heap := h' } := I.turned (t' := s.toks) (fun b o hb e => eb b o hb e) (by rw [upd_ne niq]; exact f0) f1 f3 f4 f5
    exact wpAny_pure (hdone _ I')
  | succ n ih =>
    intro i s hi I st fp
    refine codeAny_builtin PySem.F.entry_extend_loop ?_
    rw [Around.under_plainId PySem.F.plain_extend_loop _]
    show wpAny _ A1.in1 (pyNext (.ref it) >>= _) _ _ s
    have hl' : upd H q (.lst (zs.take i)) l = some (.lst zs) := by rw [upd_ne nql]; exact hl
    obtain ⟨its, rv, pl, _⟩ := I.list (SqL.of (K := X.K) hl')
    have hlen := rv.length
    obtain ⟨f0, f1, f2, f3, f4, f5⟩ := id fp
    have niq : it ≠ q := fun e => by rw [e, hq0] at f0; cases f0
    have hv : zs[i]? = some (zs[i]'(by omega)) := List.getElem?_eq_getElem _
    obtain ⟨u, hu, ru⟩ := rv.get hv
    refine wpAny_bind (wpAny_pyNext_list_item st pl.isList (x := u) (by simpa using hu) fun h' st' sb => ?_)
    have I1 : Inv X pins σ (upd H q (.lst (zs.take i))) { s with heap := h' } := I.turned (t' := s.toks) (fun b o hb e => (sb.2 b hb).trans e) (by rw [upd_ne niq]; exact f0) f1 f3 f4 f5
    show wpAny _ A1.in1 (updateSeq q (·.push u) >>= _) _ _ _
    obtain ⟨z, its2, kk, r2, hl2, e2⟩ := I1.lstM upd_same
    refine wpAny_bind (wpAny_updateSeq e2 rfl (wpAny_pure ⟨plainId_quiet PySem.F.plain_extend_loop _, ?_⟩) (by rw [List.size_toArray, ← hl2, List.length_take]; omega) (by show (its2.toArray.push u).size ≤ sizeLine + 1; rw [Array.size_push, List.size_toArray, ← hl2, List.length_take]; omega))
    have e3 : zs.take (i + 1) = zs.take i ++ [zs[i]'(by omega)] := by rw [List.take_add_one, hv]; rfl
    have I2 := I1.lset (f := (·.push u)) (its' := its2 ++ [u]) (ys := zs.take (i + 1)) (t' := s.toks) upd_same e2 (by simp) (by rw [e3]; exact r2.append (.cons ru .nil)) (by rw [List.length_take]; omega)
    rw [upd_upd] at I2
    refine ih (i + 1) _ (by omega) I2 (st'.at fun o e => ?_) fp
    exact (Heap.get?_update_other _ _ (Ne.symm niq)).trans e
theorem own_extendL {Rs : Result → Shared → Prop} {sp : Sp} {m : Nat} (sb : Sub X (k + 1) A1.in1) (hh : A1.in1.handled = none) (ci : ItrC X C fi fdI fld k) (cl : LenC X C fl fdL sp k) (I : Inv X pins σ H s) (hp : H p = some (.ins C dx fs)) (hf : fs.lookup fld = some (.ref l)) (hl : H l = some (.lst zs)) (hsz : zs.length < sizeLine)
    (hm : m ≤ sizeLine) (hsp : sp [.ref p] H (fun v H' => v = .int (m : Int) ∧ H' = H) E0) (hq : H q = some (.lst [])) (nql : l ≠ q) (hdone : ∀ s, Inv X pins σ (upd H q (.lst zs)) s → Rs (.ok (.ret .none)) s) (herr : ∀ e s, X.xe e s → Rs (.error e) s) :
    wpAny (model X.prog X.w) A1.in1 (Builtin.List.listExtendWith (.ref q) (.ref p) .none)
      (fun fin s' => match fin with | .done f => Rs (.ok f) s' | .again c' => c'.quiet = true ∧ codeAny (model X.prog X.w) A1 c' Rs s') (fun e s' => Rs (.error e) s') s := by
  have hne : q ≠ p := ne_of hq hp (fun z => nomatch z)
  obtain ⟨mA, J, _⟩ := ins_get I.hok hp
  obtain ⟨od, J, _⟩ := J.look
  unfold Builtin.List.listExtendWith
  refine wpAny_bind (J.type.here ?_)
  have h1 : Builtin.List.listSameRef (.ref q) (.ref p) = false := by simp [Builtin.List.listSameRef, hne]
  have h2 : (Value.ref C == Value.type "list") = false := rfl
  have h3 : (Value.ref C == Value.type "tuple") = false := rfl
  simp only [h1, h2, h3, Bool.or_false, Bool.false_eq_true, if_false]
  refine wpAny_bind (wpAny_mono (own_iter (Q := fun v s' => ∃ it, v = .ref it ∧ H it = none ∧ s.heap.objs.size ≤ it ∧ s'.heap.IsListIter it l 0 ∧ s'.heap.get? it = some (GNX.itObj l 0) ∧ Inv X pins σ H s') (sb.mono (Nat.le_succ k)) ci I hp hf hl fun it s' a b c e d => ⟨it, rfl, a, b, c, e, d⟩) (fun v s' hv => ?_) fun e s' he => herr e s' he)
  obtain ⟨it, rfl, hn, hge, st, eo, I'⟩ := hv
  have fp : FpOk X pins H it := I.fpOk hge hn
  have niq : it ≠ q := fun e => by rw [e, hq] at hn; cases hn
  have hint : wpAny (model X.prog X.w) A1.in1 (Builtin.List.listLengthHint (.ref p)) (fun b s2 => Inv X pins σ H s2 ∧ s2.heap.IsListIter it l 0) (fun e s' => Rs (.error e) s') s' := by
    obtain ⟨mA', J', _⟩ := ins_get I'.hok hp
    obtain ⟨od', J', _⟩ := J'.look
    have IP : Inv X ((it, GNX.itObj l 0) :: pins) σ H s' := I'.pins_of fun r hr => by
      rcases List.mem_cons.mp hr with e | hr
      · rw [e]
        exact ⟨eo, hn, fp.2.1, fp.2.2.1, fun v z => by cases z⟩
      · exact I'.pin r (List.mem_append_right _ hr)
    unfold Builtin.List.listLengthHint
    refine wpAny_bind (wpAny_bind (J'.type.here ((PySem.W.looks_findIn I'.kIn cl.at_).here ?_)))
    refine PySem.W.KFB.if_not rfl ?_
    refine PySem.W.KFB.if_so rfl ?_
    refine wpAny_bind (wpAny_rule ?_)
    refine wpAny_bind (wpAny_attempt ?_)
    refine wpAny_mono (own_len (Q := fun v s2 => ∃ t, v = .int (m : Int) t ∧ Inv X ((it, GNX.itObj l 0) :: pins) σ H s2) (E' := fun _ _ => False) (Sub.in1 sb) cl.at_ cl.ty cl.fn cl.bi IP hp hm hsp fun t s2 h => ⟨t, rfl, h⟩) (fun v s2 hv => ?_) (fun e s2 he => he.elim)
    obtain ⟨t, rfl, I2⟩ := hv
    refine wpAny_bind (m := asInt? (.int (m : Int) t)) (wpAny_pure ?_)
    refine PySem.W.KFB.if_not (notLongL (by rw [Int.toNat_natCast]; exact hm)) ?_
    have eo2 := (I2.pin (it, GNX.itObj l 0) (List.mem_append_right _ List.mem_cons_self)).1
    exact wpAny_pure ⟨I2.pins_of fun r hr => I2.pin r (List.mem_append_right _ (List.mem_cons_of_mem _ hr)), _, eo2, rfl, rfl⟩
  refine wpAny_bind (wpAny_holding (wpAny_mono hint (fun room s2 hr => ?_) fun _ _ z => z))
  obtain ⟨I2, st2⟩ := hr
  have hupd : upd H q (.lst (zs.take 0)) = H := by
    funext b
    by_cases hb : b = q
    · rw [hb, upd_same, hq]; rfl
    · rw [upd_ne hb]
  obtain ⟨z, its, k3, r3, hl3, e3⟩ := I2.lstM hq
  cases r3
  refine wpAny_ite_split (fun _ => ?_) (fun _ => wpAny_pure ⟨plainId_quiet PySem.F.plain_extend_loop _, ext_loop hh nql hl hsz hq hdone zs.length 0 s2 rfl (by rw [hupd]; exact I2) st2 fp⟩)
  refine wpAny_bind (wpAny_rule ?_)
  refine wpAny_bind ?_
  show wpAny _ _ (updateSeq q (·.push .none) >>= fun _ => updateSeq q (·.pop)) _ _ _
  refine wpAny_bind (wpAny_updateSeq e3 rfl ?_)
  have I4 := I2.lset (f := (·.push Value.none)) (its' := [Value.none]) (ys := [.non]) (t' := s2.toks) hq e3 (by simp) (.cons rfl .nil) (by rw [List.length_singleton, sizeLine_eq]; decide)
  obtain ⟨z4, its4, k4, r4, hl4, e4⟩ := I4.lstM upd_same
  obtain ⟨u4, rfl, ru4⟩ := r4.one
  refine wpAny_updateSeq e4 rfl ?_ (by show 1 ≤ sizeLine; rw [sizeLine_eq]; decide) (by show 0 ≤ sizeLine + 1; exact Nat.zero_le _)
  have I5 := I4.lset (f := (·.pop)) (its := [u4]) (its' := []) (ys := []) (t' := s2.toks) upd_same e4 (by rfl) .nil (Nat.zero_le _)
  rw [upd_upd] at I5
  refine wpAny_pure ⟨plainId_quiet PySem.F.plain_extend_loop _, ext_loop hh nql hl hsz hq hdone zs.length 0 _ rfl I5 ?_ fp⟩
  exact (st2.at fun o e => (Heap.get?_update_other _ _ (Ne.symm niq)).trans e).at fun o e => (Heap.get?_update_other _ _ (Ne.symm niq)).trans e
/-- list(o): a new list of what the list in the field holds -/
theorem call_listOwnL {sp : Sp} (ci : ItrC X C fi fdI fld k) (cl : LenC X C fl fdL sp k) (hc : X.calm = true) (hr : Room (k + 3) X.A) :
    CallR X (.type "list") (fun xs H Q => ∃ (p dx l : Addr) (fs : List (Str × V)) (zs : List V) (m : Nat), xs = [.ref p] ∧ H p = some (.ins C dx fs) ∧ fs.lookup fld = some (.ref l) ∧ H l = some (.lst zs) ∧ zs.length ≤ 1000 ∧ m ≤ sizeLine ∧
      (∀ H', Same H H' → sp [.ref p] H' (fun v H'' => v = .int (m : Int) ∧ H'' = H') E0) ∧ ∀ q, H q = none → Q (.ref q) (upd H q (.lst zs))) := by
  intro pins s σ H xs us Q I rv h
  obtain ⟨p, dx, l, fs, zs, m, rfl, hp, hf, hl, hz, hm, hsp, hq⟩ := h
  obtain ⟨u, rfl, ru⟩ := rv.one
  cases ru
  have sb : Sub X (k + 1) X.A.in1.in1 := (Sub.in1 (Sub.in1 (⟨hr, rfl⟩ : Sub X (k + 3) X.A)))
  refine callType_codes (Q₁ := fun obj s₁ => obj = .ref s.heap.objs.size ∧ s₁ = { s with heap := s.heap.push { cls := .type "list", data := .seq #[] } }) PySem.F.called_list (PySem.F.typeCall_list_1 _) PySem.F.entry_list_init
    (code_list_new _ ⟨rfl, rfl⟩) fun obj s₁ h₁ => ?_
  obtain ⟨rfl, rfl⟩ := h₁
  have hS : (s.heap.push { cls := .type "list", data := .seq #[] }).get? s.heap.objs.size = some { cls := .type "list", data := .seq #[] } := Heap.get?_push_size _ rfl
  refine ⟨⟨_, hS, rfl⟩, PySem.F.args_list_init_2 _ _, ?_⟩
  have fr : H s.heap.objs.size = none := I.hok.fresh (Nat.le_refl _)
  have hq' := hq _ fr
  have I1 : Inv X pins σ (upd H s.heap.objs.size (.lst [])) { s with heap := s.heap.push { cls := .type "list", data := .seq #[] } } := I.lnew (its := []) (t' := s.toks) .nil (Nat.zero_le _)
  show wpAny _ _ (do let old ← Builtin.List.listItems (.ref s.heap.objs.size); Builtin.List.listUpdate (.ref s.heap.objs.size) (fun _ => #[]); letGo old.toList.reverse; Builtin.List.listExtendWith (.ref s.heap.objs.size) (.ref p) .none) _ _ _
  refine wpAny_bind ?_
  unfold Builtin.List.listItems
  refine wpAny_bind (wpAny_seqItems hS rfl (wpAny_pure ?_))
  show wpAny _ _ (updateSeq s.heap.objs.size (fun _ => #[]) >>= fun _ => letGo (#[] : Array Value).toList.reverse >>= fun _ => Builtin.List.listExtendWith (.ref s.heap.objs.size) (.ref p) .none) _ _ _
  refine wpAny_bind (wpAny_updateSeq hS rfl ?_)
  have I2 := I1.lset (f := fun _ => #[]) (its := []) (its' := []) (ys := []) (t' := s.toks) upd_same hS rfl .nil (Nat.zero_le _)
  rw [upd_upd] at I2
  refine wpAny_bind (wpAny_letGo ?_)
  have sH : Same H (upd H s.heap.objs.size (.lst [])) := fun b x e => by rw [upd_ne (ne_of_none e fr)]; exact e
  have nql : l ≠ s.heap.objs.size := ne_of_none hl fr
  refine own_extendL (A1 := X.A.in1) (Rs := wants (fun r s₂ => r = .none ∧ EP X pins σ Q (.ref s.heap.objs.size) s₂) X.xe) sb (I.ok.hd hc) ci cl I2 (sH _ _ hp) hf (sH _ _ hl) (Nat.lt_of_le_of_lt hz (by decide)) hm (hsp _ sH) upd_same nql
    (fun s' I' => ⟨rfl, .ref s.heap.objs.size, _, I', rfl, by rw [upd_upd]; exact hq'⟩) (fun e s' he => he)
end
end RO

set_option maxRecDepth 100000
set_option maxHeartbeats 2000000
namespace R6
open PySem PySem.Spec PyProof.Rows L2
/-! ### an own class made inside a try: __init__ may raise -/
section
variable {X : Cx} {CX : CXT} {k : Nat} {f C : Addr} {fd : FuncData} {ps : List Str} {ds : List Value} {dvs : List V} {sp : Sp} {E : L2.St → XK} {x : Str} {p pos : Pos} {e : Expr} {es : List Expr} {t : TA}
theorem run_makeS {pins : List (Addr × Obj)} {σ : L2.St} {H : Hp} {s : Shared} {Q : VK} {us : List Value} {vs : List V} (M : Mk X.K C f) (F : FnOk X.prog X.w X.K X.mg X.base CX k f fd ps sp) (hr : Room (k + 1) X.A) (hb : Binds X.K fd ps ds) (hd : Vals dvs ds)
    (hx : PassesAt CX X σ (E σ)) (I : Inv X pins σ H s) (r : Vals vs us)
    (h : ∀ x dx, H x = none → H dx = none → dx ≠ x → sp (.ref x :: (vs ++ dvs)) (upd (upd H dx (.own x)) x (.ins C dx [])) (fun v H2 => v = .non ∧ Q (.ref x) H2) (E σ)) :
    wpAny (model X.prog X.w) X.A (call (.ref C) us) (EP X pins σ Q) X.xe s := by
  have hq := h (s.heap.objs.size + 1) s.heap.objs.size (I.hok.fresh (Nat.le_succ _)) (I.hok.fresh (Nat.le_refl _)) (Nat.ne_of_lt (Nat.lt_succ_self _))
  have I2 := Inv.made (C := C) I
  have r2 : Vals (V.ref (s.heap.objs.size + 1) :: (vs ++ dvs)) (Value.ref (s.heap.objs.size + 1) :: (us ++ ds)) := .cons rfl (r.append hd)
  have hl : (Value.ref (s.heap.objs.size + 1) :: us ++ ds).length = ps.length := by
    have e := r2.length
    rw [F.len _ _ _ _ hq] at e
    exact e.symm
  refine wpAny_call (make_map (f := f) I.kIn M.makes M.init (beq_iff_eq.mp M.fn) (codeAny_mono (F.run _ X.stack _ _ ⟨Value.ref (s.heap.objs.size + 1) :: us, []⟩ (Value.ref (s.heap.objs.size + 1) :: (us ++ ds)) _ _ (E σ) (hr.make C us [])
    (I2.env0.make C us []) (hb _ (Value.ref (s.heap.objs.size + 1) :: us) I2.kIn hl) r2 hq) fun r s' hq' => ?_))
  cases r with
  | error e => exact hx pins _ _ e s' I2 hq'
  | ok fl =>
    cases fl with
    | ret u =>
      obtain ⟨v, H', I3, rv, ev, q3⟩ := I2.after hq'
      subst ev
      exact ⟨rv, ⟨V.ref (s.heap.objs.size + 1), H', I3, rfl, q3⟩⟩
    | next => exact False.elim hq'
    | brk => exact False.elim hq'
    | cont => exact False.elim hq'
def tMakeS (C : Addr) (sp : Sp) (dvs : List V) (E : L2.St → XK) (t : TA) : TE := fun σ H Q => t σ H fun vs H1 => ∀ x dx, H1 x = none → H1 dx = none → dx ≠ x → sp (.ref x :: (vs ++ dvs)) (upd (upd H1 dx (.own x)) x (.ins C dx [])) (fun v H2 => v = .non ∧ Q (.ref x) H2) (E σ)
theorem pe_makeS (M : Mk X.K C f) (F : FnOk X.prog X.w X.K X.mg X.base CX k f fd ps sp) (hr : Room (k + 1) X.A) (hg : Gl X x) (hm : X.mg x = some (.ref C)) (hb : Binds X.K fd ps ds) (hd : Vals dvs ds) (hx : ∀ σ, PassesAt CX X σ (E σ))
    (ha : PA X (e :: es) t) (hdb : (x == ("__debug__" : Str)) = false := by decide) (he : starEach (e :: es) X.env = (false, eval e X.env) :: starEach es X.env := by rfl) (hpl : (backTo pos (starEach es X.env)).any (·.1) = false := by rfl) :
    PE X (.Call (.Name x p) (e :: es) [] pos) (tMakeS C sp dvs E t) := by
  refine ⟨fun pins s σ H Q I h => ?_⟩
  refine wpAny_Call_Name_kw (ld_glob I hg hm ?_ hdb)
  refine PySem.W.callWith_K (h₀ := X.base) I.ok.mod.kin M.kp (thn (ha.run pos pins s σ H _ I h) fun us s1 ⟨vs, H1, I1, r, q⟩ => ⟨I1.kIn, ?_⟩) he hpl
  exact run_makeS M F hr hb hd (hx σ) I1 r q
end
end R6

set_option maxRecDepth 100000
set_option maxHeartbeats 4000000
/-! several except clauses, each with the same name behind as -/
namespace RT
open PySem PySem.Spec PyProof.Rows L2
/-- what is wanted behind a suite whose name at i is let go -/
def offD (D : Ends) (i : Nat) : Ends := { nx := fun σ H => D.nx (σ.set i none) H, rt := D.rt, bk := fun σ H => D.bk (σ.set i none) H, ct := fun σ H => D.ct (σ.set i none) H }
abbrev Cl : Type := Value × (Addr → Value → Option Addr → TS)
def wAsM (K : PySem.W.Frag) (i : Nat) (W0 : WX) (D : Ends) : List Cl → WX
  | [] => W0
  | k :: r => fun cls d σ H => ∃ b, PySem.W.exmOne K cls k.1 = some b ∧ (b = true → ∀ a, H a = none → k.2 a cls d (offD D i) (σ.set i (some (.ref a))) H) ∧ (b = false → wAsM K i W0 D r cls d σ H)
inductive AsOk (X : Cx) (n : Str) : List ExceptHandler → List Cl → Prop
  | nil : AsOk X n [] []
  | cons {x : Str} {c : Value} {ts : Addr → Value → Option Addr → TS} {b0 : Stmt} {su : List Stmt} {np p' : Pos} {hs : List ExceptHandler} {l : List Cl} (hc : Names X x c)
      (hsu : ∀ (a : Addr) (oe : Obj) (cls : Value) (d : Option Addr) (pn : List (Addr × Obj)), Zc cls d oe → (∃ vs, oe.data = .fields vs) → PSs (X.suite a ((a, oe) :: pn)) (b0 :: su) (ts a cls d))
      (r : AsOk X n hs l) : AsOk X n (.ExceptHandler (some (.Name x np)) (some n) (b0 :: su) p' :: hs) ((c, ts) :: l)
section
variable {X : Cx} {n : Str} {i : Nat} {body : List Stmt} {h0 : ExceptHandler} {hds : List ExceptHandler} {l : List Cl} {pos : Pos} {tb : WX → TS} {W0 : WX}
/-- caught, on the ground -/
structure Got (X : Cx) (pins : List (Addr × Obj)) (σ : L2.St) (H : Hp) (a : Addr) (B : Heap) (sI s3 : Shared) (cls : Value) (d : Option Addr) : Prop where
  inv : Inv X pins σ H sI
  nb : ∀ b o, sI.heap.get? b = some o → b ∉ frs X.stack → B.get? b = some o
  up : sI.heap.UpToSlots s3.heap
  fl : HandSPX.FlyingZ B (X.env :: X.outer) a (Zc cls d) s3.heap
  na : H a = none
  os : s3.os = sI.os
  ag : AllBare s3.gens
theorem Got.notFrame {pins : List (Addr × Obj)} {σ : L2.St} {H : Hp} {a : Addr} {B : Heap} {sI s3 : Shared} {cls : Value} {d : Option Addr} (g : Got X pins σ H a B sI s3 cls d) (hf : X.env.frame = some X.env.locals) : a ≠ X.env.locals ∧ a ∉ X.fs := by
  obtain ⟨oe, vs, e1, _, e3⟩ := g.fl.there
  have nfr : a ∉ frs (X.env :: X.outer) := fun hm => by
    obtain ⟨_, o, e, hnf⟩ := g.fl.2.2.1.mem hm
    rw [e1] at e; cases e; exact hnf _ e3
  refine ⟨fun z => nfr (List.mem_filterMap.mpr ⟨_, List.mem_cons_self, hf.trans (congrArg some z.symm)⟩), fun hm => ?_⟩
  obtain ⟨e, y1, y2⟩ := List.mem_filterMap.mp hm
  exact nfr (List.mem_filterMap.mpr ⟨e, List.mem_cons_of_mem _ y1, y2⟩)
theorem clauses (hs : X.stack = X.env :: X.outer) (hf : X.env.frame = some X.env.locals) (hN : X.N.Nodup) (hi : X.N[i]? = some n) (hln : X.env.kindOf n = some .local) (tk : Takes X W0) {D : Ends}
    {pins : List (Addr × Obj)} {σ : L2.St} {H : Hp} {a : Addr} {B : Heap} {sI s3 : Shared} {cls : Value} {d : Option Addr} (ok : X.Ok) (g : Got X pins σ H a B sI s3 cls d) :
    ∀ {hl : List ExceptHandler} {cl : List Cl}, AsOk X n hl cl → wAsM X.K i W0 D cl cls d σ H → wpAny (model X.prog X.w) X.A (handleBy (.ref a) X.env hl) (SP X pins D) X.xe s3 := by
  intro hl cl hk
  obtain ⟨nL, nF⟩ := g.notFrame hf
  have I3 : Inv X pins σ H s3 := g.inv.landed g.nb g.fl.1 g.up g.os g.ag
  obtain ⟨o3, v3, x3, z3, d3⟩ := g.fl.there
  have S3 := I3.suite x3 d3 g.na nL nF
  induction hk with
  | nil =>
    intro wv
    refine wpAny_handleBy_nil ?_
    obtain ⟨_, _, _, oe, vs, T, _, _, y1, _, y3, y4, _⟩ := id g.fl
    unfold PySem.passOn
    refine wpAny_bind (wpAny_field y1 y3 y4 ?_)
    rw [if_neg (show ¬ ((Value.ref T == Value.none) = true) by simp), hf]
    refine wpAny_bind (HandSPX.setFlight_upZ g.fl fun h4 hh up => wpAny_throw (tk _ _ ?_))
    exact ⟨a, B, sI, pins, σ, H, cls, d, rfl, g.inv, g.nb, g.up.trans up, .inr (.inr (by rw [hs]; exact hh)), g.na, g.os, g.ag, wv⟩
  | @cons x c ts b0 su np p' hs2 l2 hc hsu r ih =>
    rintro ⟨b, hb, yes, no⟩
    refine wpAny_handleBy_cons (codeAny_handlers_test ?_) (by intro q; cases q)
    have tyE : PySem.W.Looks (model X.prog X.w) s3.heap (typeOf (.ref a)) cls := fun _ _ _ _ k q => wpAny_typeOf_ref (k _ _ x3) (by rw [z3.1]; exact q)
    have exm := PySem.W.exm_one (M := model X.prog X.w) I3.kIn tyE hb
    have nm : ∀ {Q : Value → Shared → Prop} {E : Value → Shared → Prop}, Q c s3 → wpAny (model X.prog X.w) (X.A.mark (some (.ref a))) (eval (.Name x np) X.env) Q E s3 := fun q => by
      obtain ⟨w1, w2, w3 | ⟨w3, w4, w5⟩⟩ := hc
      · exact ld_glob (X := X.suite a ((a, o3) :: (X.pn ++ pins))) S3 w1 w3 q w2
      · exact ld_blt (X := X.suite a ((a, o3) :: (X.pn ++ pins))) S3 w1 w3 w4 q w5 w2
    refine nm (exm.here ?_)
    cases b with
    | false => exact ih (no rfl)
    | true =>
      refine codeAny_handlers_suite_as (HandSPX.lands_againZ g.fl fun h4 fl4 up4 => ?_)
      have I4 : Inv X pins σ H { s3 with heap := h4 } := g.inv.landed g.nb fl4.1 (g.up.trans up4) g.os g.ag
      obtain ⟨o4, v4, x4, z4, d4⟩ := fl4.there
      refine store_ok (X := X.suite a ((a, o4) :: (X.pn ++ pins))) (v := .ref a) (I4.suite x4 d4 g.na nL nF) hN hi (.inl hln) rfl (fun s5 S5 => ?_) (.inr hln)
      refine wpAny_mono ((hsu a o4 cls d (X.pn ++ pins) z4 ⟨_, d4⟩).run [] s5 _ H _ S5 (yes rfl a g.na)) (fun fl s6 sp => ?_) (fun _ _ z => z.elim)
      have off : ∀ {σ' : L2.St} {H' : Hp} {Q : Shared → Prop}, Inv (X.suite a ((a, o4) :: (X.pn ++ pins))) [] σ' H' s6 → (∀ s7, Inv X pins (σ'.set i none) H' s7 → Q s7) →
          wpAny (model X.prog X.w) X.A (do bindName X.env n .none; unbindBehindTheSuite X.env n p') (fun _ s7 => Q s7) X.xe s6 := fun y q => gone_ok (y.unsuite ok) hN hi hln q
      cases fl with
      | next => obtain ⟨_, _, y, q⟩ := sp; exact off y fun _ j => ⟨_, _, j, q⟩
      | brk => obtain ⟨_, _, y, q⟩ := sp; exact off y fun _ j => ⟨_, _, j, q⟩
      | cont => obtain ⟨_, _, y, q⟩ := sp; exact off y fun _ j => ⟨_, _, j, q⟩
      | ret u => obtain ⟨_, _, _, y, rr, q⟩ := sp; exact off y fun _ j => ⟨_, _, _, j, rr, q⟩
theorem ps_try_asM (hs : X.stack = X.env :: X.outer) (hf : X.env.frame = some X.env.locals) (hN : X.N.Nodup) (hi : X.N[i]? = some n) (hln : X.env.kindOf n = some .local) (tk : Takes X W0)
    (hb : ∀ (W : WX) (pn : List (Addr × Obj)) (xe : Value → Shared → Prop), Takes (X.tr pn xe) W → PassesOwn (model X.prog X.w) X.A X.env xe → PSs (X.tr pn xe) body (tb W)) (hh : AsOk X n (h0 :: hds) l) :
    PS X (.Try body (h0 :: hds) [] [] pos) (fun D σ H => tb (wAsM X.K i W0 D l) D σ H) := by
  refine ⟨fun pins s σ H D I h => ?_⟩
  have ok := I.ok
  refine wpAny_Try_except ?_
  have run := (hb (wAsM X.K i W0 D l) (X.pn ++ pins) (fun e s1 => wpAny (model X.prog X.w) X.A (noteFrame e X.env) (fun _ s2 => wpAny (model X.prog X.w) X.A (setFlight e none) (fun _ s3 => wpAny (model X.prog X.w) X.A (handleBy e X.env (h0 :: hds)) (SP X pins D) X.xe s3) X.xe s2) X.xe s1)
    (fun u s' xx => by
      obtain ⟨a, B, sI, pins', σ', H', cls, d, rfl, J, nb, up, sky, na, os, ag, wv⟩ := xx
      have sky' : Sky B (X.env :: X.outer) a (Zc cls d) X.env.locals s'.heap := by rw [← hs]; exact sky
      show wpAny (model X.prog X.w) X.A (noteFrame (.ref a) X.env) _ _ _
      refine Sky.land Zc.steady (ok.frames.trans (congrArg some hs)) hf sky' fun h3 fl3 up3 => ?_
      exact clauses hs hf hN hi hln tk ok (s3 := { s' with heap := h3 }) ⟨J.ofTry ok, nb, up.trans up3, fl3, na, os, ag⟩ hh wv) PassesOwn.looking).run [] s σ H D (I.toTry _) h
  refine wpAny_mono run (fun f s1 sp => ?_) (fun _ _ z => z)
  cases f with
  | next => obtain ⟨_, _, y, q⟩ := sp; exact wpAny_execs_nil ⟨_, _, y.ofTry ok, q⟩
  | brk => obtain ⟨_, _, y, q⟩ := sp; exact ⟨_, _, y.ofTry ok, q⟩
  | cont => obtain ⟨_, _, y, q⟩ := sp; exact ⟨_, _, y.ofTry ok, q⟩
  | ret u => obtain ⟨_, _, _, y, rr, q⟩ := sp; exact ⟨_, _, _, y.ofTry ok, rr, q⟩
end
end RT

set_option maxRecDepth 100000
set_option maxHeartbeats 4000000
/-! own `in`; an own instance called with keywords -/
namespace RI
open PySem PySem.Spec PyProof.Rows L2 PySem.W
section
variable {M : Model} {A : Around} {E : Value → Shared → Prop} {s : Shared} {K : Frag} {a C f : Addr} {ox : Obj} {od : Option Obj}
theorem contains_own {v : Value} {Q : Bool → Shared → Prop} (X : K.In s.heap) (I : InstAt s.heap a ox C od) (hs : findIn K (.ref C) "__contains__" = some (some (.ref f))) (hf : typeIn K (.ref f) = some (.type "function"))
    (h : wpAny M A (call (.ref f) [.ref a, v]) (fun r s' => wpAny M A (truthy r) Q E s') E s) : wpAny M A (contains (.ref a) v) Q E s := by
  unfold contains
  refine wpAny_holding ?_
  rw [show stdlibNamesSay? (.ref a) v = none from rfl]
  have look : Looks M s.heap (specialOf (.ref a) "__contains__") (some (.ref f)) := I.type.andThen (looks_findIn X hs)
  refine wpAny_bind (look.here ?_)
  show wpAny M A (if (some (Value.ref f) == some Value.none) = true then _ else _) Q E s
  rw [if_neg (by simp)]
  refine wpAny_bind ?_
  unfold callSpecialUnlessNone?
  refine wpAny_bind (look.here (wpAny_holding (wpAny_bind ((bind_fn X (.ref a) hf).here ?_))))
  show wpAny M A (if ((Value.ref f) == Value.none) = true then _ else _) _ E s
  rw [if_neg (by simp)]
  refine wpAny_bind ?_
  exact wpAny_mono h (fun r s' z => wpAny_pure z) fun _ _ z => z
end
section
variable {X : Cx} {C f : Addr} {k : Nat} {CX : CXT} {fd : FuncData} {ps : List Str} {sp : Sp} {E : XK}
/-- v in o, o of an own class whose own __contains__ says a bool -/
def rInOwn (C : Addr) (sp : Sp) (E : XK) : R2 := fun x y H Q => ∃ a dx fs, y = .ref a ∧ H a = some (.ins C dx fs) ∧ sp [.ref a, x] H (fun v H' => ∃ r, v = .bl r ∧ Q (.bl r) H') E
theorem op_inOwn (F : FnOk X.prog X.w X.K X.mg X.base CX k f fd ps sp) (hs : findIn X.K (.ref C) "__contains__" = some (some (.ref f))) (hf : typeIn X.K (.ref f) = some (.type "function")) (hb : Binds X.K fd ps []) (hr : Room k X.A) (hx : Passes CX X E) :
    OpR X (compareOp .In) (rInOwn C sp E) := by
  intro pins s σ H x y v u Q I rx ry h
  obtain ⟨a, dx, fs, rfl, ha, hsp⟩ := h
  cases (show u = Value.ref a from ry)
  obtain ⟨mA, J, _⟩ := ins_get I.hok ha
  obtain ⟨od, J, _⟩ := J.look
  have hl := F.len _ _ _ _ hsp
  have r2 : Vals [V.ref a, x] [Value.ref a, v] := .cons rfl (.cons rx .nil)
  show wpAny (model X.prog X.w) X.A (do return .bool (← contains (.ref a) v)) (EP X pins σ Q) X.xe s
  refine wpAny_bind (contains_own I.kIn J hs hf (wpAny_call (codeAny_mono (F.run X.A X.stack s H ⟨[.ref a, v], []⟩ [.ref a, v] [.ref a, x] _ E hr I.env0 (by
    have := hb s [.ref a, v] I.kIn (by simpa using hl)
    simpa using this) r2 hsp) fun r s' hq => ?_)))
  cases r with
  | error e => exact hx pins σ H s e s' I hq
  | ok fl =>
    cases fl with
    | ret w =>
      obtain ⟨z, H', I', rz, r, ez, q⟩ := I.after hq
      subst ez
      cases rz
      exact wpAny_pure (wpAny_pure ⟨.bl r, H', I', rfl, q⟩)
    | next => exact False.elim hq
    | brk => exact False.elim hq
    | cont => exact False.elim hq
/-- o(e, .., k = v, ..) -/
def tCallON (X : Cx) (C : Addr) (n m : Nat) (sp : Sp) (gV : List V → List V → List V) (E : XK) (tf : TE) (t tk : TA) : TE := fun σ H Q => tf σ H fun y H1 => ∃ a, y = V.ref a ∧ t σ H1 fun vs H2 => tk σ H2 fun zs H3 =>
  vs.length = n ∧ zs.length = m ∧ (∃ dx fs, H3 a = some (.ins C dx fs)) ∧ sp (gV (V.ref a :: vs) zs) H3 Q E
theorem pe_callON {n : Nat} {ks : List Str} {fe e : Expr} {es : List Expr} {kws : List Keyword} {pos : Pos} {tf : TE} {t tk : TA} {g : List Value → List Value → List Value} {gV : List V → List V → List V} (hf : PE X fe tf) (c : StX.CallO X.K C f)
    (F : FnOk X.prog X.w X.K X.mg X.base CX k f fd ps sp) (hr : Room k X.A) (hb : KBn X.K fd ps (n + 1) ks g gV) (hx : Passes CX X E) (ha : PA X (e :: es) t) (hkw : PK X kws tk)
    (hall : (backToKw pos (keywordEach kws X.env)).all (·.1.isSome) = true := by rfl) (hks : (backToKw pos (keywordEach kws X.env)).filterMap (·.1) = ks := by rfl)
    (ht : eval (.Call fe (e :: es) kws pos) X.env = (do callWith pos (← eval fe X.env) [] (backTo pos (starEach (e :: es) X.env)) (backToKw pos (keywordEach kws X.env))) := by rfl)
    (he : starEach (e :: es) X.env = (false, eval e X.env) :: starEach es X.env := by rfl)
    (hpl : ((backTo pos (starEach (e :: es) X.env)).any (·.1) || (backToKw pos (keywordEach kws X.env)).any (·.1.isNone)) = false := by rfl) :
    PE X (.Call fe (e :: es) kws pos) (tCallON X C n ks.length sp gV E tf t tk) := by
  refine ⟨fun pins s σ H Q I h => ?_⟩
  rw [ht]
  refine wpAny_bind (thn (hf.run pins s σ H _ I h) fun u s1 hu => ?_)
  obtain ⟨y, H1, I1, ry, a, rfl, q⟩ := hu
  obtain rfl : u = Value.ref a := ry
  unfold callWith
  refine wpAny_bind (wpAny_holding ?_)
  refine evalArgs_kw2 hall (thn (ha.run pos pins s1 σ H1 _ I1 q) fun us s2 h2 => ?_) he
  obtain ⟨vs, H2, I2, r, q2⟩ := h2
  refine thn (hkw.run pos pins s2 σ H2 _ I2 q2) fun ws s3 h3 => ?_
  obtain ⟨zs, H3, I3, rz, l1, l2, ⟨dx, fs, ha3⟩, hsp⟩ := h3
  refine wpAny_bind (wpAny_standAt ?_)
  obtain ⟨mA, O, _⟩ := ins_get I3.hok ha3
  obtain ⟨od, J, _⟩ := O.look
  have keep := kco_keeper (M := model X.prog X.w) J rfl
  simp only [hpl]
  refine wpAny_bind (keep.here ?_)
  have r1 : Vals (V.ref a :: vs) (Value.ref a :: us) := .cons rfl r
  have run : wpAny (model X.prog X.w) X.A (call (.ref a) us (ks.zip ws)) (EP X pins σ Q) X.xe s3 := by
    refine wpAny_call (kco_code I3.kIn J rfl c.at_ c.fn c.fi ?_)
    refine codeAny_mono (F.run X.A X.stack s3 H3 ⟨.ref a :: us, ks.zip ws⟩ (g (.ref a :: us) ws) _ Q E hr I3.env0 (hb.to _ _ ws I3.kIn (by rw [← r1.length, List.length_cons, l1]) (by rw [← rz.length, l2])) (hb.rel r1 rz) hsp) fun r s' hq => ?_
    cases r with
    | error e => exact hx pins σ H3 s3 e s' I3 hq
    | ok fl =>
      cases fl with
      | ret u => exact I3.after hq
      | next => exact False.elim hq
      | brk => exact False.elim hq
      | cont => exact False.elim hq
  rw [hks]
  have go : ∀ {t : Sem Value}, wpAny (model X.prog X.w) X.A t (EP X pins σ Q) X.xe s3 → wpAny (model X.prog X.w) X.A (t >>= fun r => holding [r] point >>= fun _ => pure r) (EP X pins σ Q) X.xe s3 :=
    fun hh => wpAny_bind (wpAny_mono hh (fun _ _ hz => wpAny_bind (wpAny_holding (wpAny_point (wpAny_pure hz)))) fun _ _ z => z)
  exact go (wpAny_operateT run)
end
end RI

set_option maxRecDepth 100000
set_option maxHeartbeats 2000000
/-! list(o) where o's own __iter__ returns iter(d) of a dict in a field -/
namespace RK
open PySem PySem.Spec PyProof.Rows L2 ItX RO
abbrev kitObj (d : Addr) (n ep : Nat) : Obj := { cls := .type "dict_keyiterator", data := .fields #[.ref d, .int (0 : Nat) 0, .int n 0, .int ep 0] }
def KitO (d it n ep : Nat) : HO := .ext fun h => h.get? it = some (kitObj d n ep)
theorem kitO_ok {P : Program} {w : World} {H : Hp} {h : Heap} {d it n ep : Nat} (e : h.get? it = some (kitObj d n ep)) : ObjOk P w H h it (KitO d it n ep) := ⟨e, ⟨_, e⟩, fun h1 h2 q k => k _ q⟩
section
variable {X : Cx}
/-- iter(d) of a locked dict -/
theorem call_iterK : CallR X (.builtin "iter") (fun xs H Q => ∃ (d : Addr) (o : Obj) (kvs : List (Key × V)), xs = [.ref d] ∧ H d = some (.frz o (.dK kvs)) ∧
    ∀ it es ep, o.data = .dict es ep → H it = Option.none → X.s_0.heap.objs.size ≤ it → Q (.ref it) (upd H it (KitO d it kvs.length ep))) := by
  intro pins s σ H xs us Q I r h
  obtain ⟨d, o, kvs, rfl, hd, q⟩ := h
  obtain ⟨u, rfl, ru⟩ := vals1 r
  cases ru
  obtain ⟨hs, hgd, hx, es, ep, vs, hdt, hsz, kv, hm⟩ := I.frzK hd
  refine Calls.call_function_entry (by decide +kernel) (by decide +kernel) PySem.W.kdk_entry_iter (PySem.W.kdk_args_iter _) ?_
  unfold Builtin.«iter»
  refine wpAny_bind (m := someArgs "iter" 1 2 _) (wpAny_of_eq (a := [Value.ref d]) (by first | rfl | kernel_rfl!) ?_)
  show wpAny _ _ (pyIter (.ref d) >>= _) _ _ _
  refine wpAny_bind (iter_keys hs hgd hx hdt ?_)
  refine wpAny_pure ⟨_, rfl, ?_⟩
  have q' := q s.heap.objs.size es ep hdt (I.hok.fresh (Nat.le_refl _)) I.sz
  rw [hsz]
  exact ⟨.ref s.heap.objs.size, _, I.laid (t' := s.toks) (fun b u e => Heap.get?_push_of_some _ e) (Nat.le_refl _) (kitO_ok (Heap.get?_push_size _ rfl)), rfl, q'⟩
end
/-- __iter__ hands back a new iterator over the locked dict in a field -/
def spItK (C : Addr) (fld : Str) (n : Nat) : Sp := fun vs H Q _ => ∃ (p dx d : Addr) (fs : List (Str × V)) (o : Obj) (kvs : List (Key × V)), vs = [.ref p] ∧ H p = some (.ins C dx fs) ∧ fs.lookup fld = some (.ref d) ∧ H d = some (.frz o (.dK kvs)) ∧
  ∀ it es ep, o.data = .dict es ep → H it = none → n ≤ it → Q (.ref it) (upd H it (KitO d it kvs.length ep))
structure ItrK (X : Cx) (C fi : Addr) (fdI : FuncData) (fld : Str) (k : Nat) : Prop where
  it : PySem.W.findIn X.K (.ref C) "__iter__" = some (some (.ref fi))
  itF : PySem.W.isFn X.K (.ref fi) = true
  fn : FnN X.prog X.w X.K X.mg X.base CX0 k fi fdI ["self"] (spItK C fld)
  bi : Binds X.K fdI ["self"] []
section
variable {X : Cx} {pins : List (Addr × Obj)} {σ : L2.St} {H : Hp} {s : Shared} {A1 : Around} {C fi fl p dx d : Addr} {fdI fdL : FuncData} {fld : Str} {k : Nat} {fs : List (Str × V)} {o : Obj} {kvs : List (Key × V)}
/-- iter(o) -/
theorem own_iterK {Q : Value → Shared → Prop} (sb : Sub X k A1) (c : ItrK X C fi fdI fld k) (I : Inv X pins σ H s) (hp : H p = some (.ins C dx fs)) (hf : fs.lookup fld = some (.ref d)) (hd : H d = some (.frz o (.dK kvs)))
    (h : ∀ it es ep s', o.data = .dict es ep → H it = none → s.heap.objs.size ≤ it → s'.heap.get? it = some (kitObj d kvs.length ep) → Inv X pins σ H s' → Q (.ref it) s') : wpAny (model X.prog X.w) A1 (pyIter (.ref p)) Q X.xe s := by
  obtain ⟨mA, J, _⟩ := ins_get I.hok hp
  obtain ⟨od, J, _⟩ := J.look
  obtain ⟨m0, hF⟩ := I.fr
  refine PySem.W.owit_iter hF I.ok.mod.kin J c.it c.itF ?_
  have hsp : spItK C fld s.heap.objs.size [.ref p] H (fun v H' => ∃ it es ep, v = .ref it ∧ o.data = .dict es ep ∧ H it = none ∧ s.heap.objs.size ≤ it ∧ H' = upd H it (KitO d it kvs.length ep)) E0 := ⟨p, dx, d, fs, o, kvs, rfl, hp, hf, hd, fun it es ep h0 h1 h2 => ⟨it, es, ep, rfl, h0, h1, h2, rfl⟩⟩
  have r2 : Vals [V.ref p] [Value.ref p] := .cons rfl .nil
  refine wpAny_call (codeAny_mono (c.fn.run A1 X.stack s H ⟨[.ref p], []⟩ [.ref p] [.ref p] _ E0 sb.room (env_sub I sb) (by
    have := c.bi s [.ref p] I.kIn rfl
    simpa using this) r2 hsp) fun r s' hq => ?_)
  cases r with
  | error e => exact absurd hq (fun z => z.elim)
  | ok fl =>
    cases fl with
    | next => exact False.elim hq
    | brk => exact False.elim hq
    | cont => exact False.elim hq
    | ret u =>
      obtain ⟨v, H', I', rv, it, es, ep, rfl, hdt, hn, hsz, rfl⟩ := I.after hq
      cases rv
      have eo : s'.heap.get? it = some (kitObj d kvs.length ep) := (I'.hok it _ upd_same).1
      have I2 := inv_drop I' (show upd H it (KitO d it kvs.length ep) it = some (.ext _) from upd_same)
      rw [dropH_upd hn] at I2
      have hT : s'.TypeIs (.ref it) "dict_keyiterator" := ⟨_, eo, rfl⟩
      unfold PySem.W.OwitIt
      exact wpAny_specialOf (name := Str.ofString "__next__") hT PySem.F.slot_dict_keyiterator_next.lookup (h it es ep s' hdt hn hsz eo I2)
/-! ### list(o) -/
theorem ext_loopK {q it : Addr} {es : Array DictEntry} {ep : Nat} {Rs : Result → Shared → Prop} (hh : A1.in1.handled = none) (ndq : d ≠ q) (hd : H d = some (.frz o (.dK kvs))) (hdt : o.data = .dict es ep) (hsz : kvs.length < sizeLine) (hq0 : H q = some (.lst []))
    (hdone : ∀ s, Inv X pins σ (upd H q (.lst (kvs.map fun kv => kV kv.1))) s → Rs (.ok (.ret .none)) s) :
    ∀ (n i : Nat) (s : Shared), n + i = kvs.length → Inv X pins σ (upd H q (.lst ((kvs.map fun kv => kV kv.1).take i))) s → s.heap.IsKeyIter it d i kvs.length ep → FpOk X pins H it →
      codeAny (model X.prog X.w) A1 (.builtin "list.extend.loop" ⟨[.ref q, .ref it, .none], []⟩) Rs s := by
  intro n
  induction n with
  | zero =>
    intro i s hi I st fp
    refine codeAny_builtin PySem.F.entry_extend_loop ?_
    rw [Around.under_plainId PySem.F.plain_extend_loop _]
    show wpAny _ A1.in1 (pyNext (.ref it) >>= _) _ _ s
    have hd' : upd H q (.lst ((kvs.map fun kv => kV kv.1).take i)) d = some (.frz o (.dK kvs)) := by rw [upd_ne ndq]; exact hd
    obtain ⟨hs, hgd, hx, es', ep', vs, hdt', hsz', kv, hm⟩ := I.frzK hd'
    obtain ⟨rfl, rfl⟩ := dict_ep hdt hdt'
    obtain ⟨f0, f1, f2, f3, f4, f5⟩ := fp
    have niq : it ≠ q := fun e => by rw [e, hq0] at f0; cases f0
    have e1 : (kvs.map fun kv => kV kv.1).take i = kvs.map fun kv => kV kv.1 := List.take_of_length_le (by rw [List.length_map]; omega)
    refine wpAny_bind (next_key_end hh st hgd hdt hsz' (by omega) fun h' eb => ?_)
    rw [e1] at I
    have I' : Inv X pins σ (upd H q (.lst (kvs.map fun kv => kV kv.1))) { s with heap := h' } := I.turned (t' := s.toks) (fun b o hb e => eb b o hb e) (by rw [upd_ne niq]; exact f0) f1 f3 f4 f5
    exact wpAny_pure (hdone _ I')
  | succ n ih =>
    intro i s hi I st fp
    refine codeAny_builtin PySem.F.entry_extend_loop ?_
    rw [Around.under_plainId PySem.F.plain_extend_loop _]
    show wpAny _ A1.in1 (pyNext (.ref it) >>= _) _ _ s
    have hd' : upd H q (.lst ((kvs.map fun kv => kV kv.1).take i)) d = some (.frz o (.dK kvs)) := by rw [upd_ne ndq]; exact hd
    obtain ⟨hs, hgd, hx, es', ep', vs, hdt', hsz', kv, hm⟩ := I.frzK hd'
    obtain ⟨rfl, rfl⟩ := dict_ep hdt hdt'
    obtain ⟨f0, f1, f2, f3, f4, f5⟩ := id fp
    have niq : it ≠ q := fun e => by rw [e, hq0] at f0; cases f0
    have hil : i < kvs.length := by omega
    obtain ⟨⟨k0, v0⟩, hkv⟩ : ∃ p, kvs[i]? = some p := ⟨kvs[i], List.getElem?_eq_getElem hil⟩
    obtain ⟨u, hu, ru⟩ := kv_get kv hkv
    have hl : kvs.length = vs.length := Paired.length kv
    have st0 := st
    rw [hl] at st0
    refine wpAny_bind (wpAny_pyNext_dict_item st0 hm hu fun key h' hkey st' sb => ?_)
    rw [← hl] at st'
    have I1 : Inv X pins σ (upd H q (.lst ((kvs.map fun kv => kV kv.1).take i))) { s with heap := h' } := I.turned (t' := s.toks) (fun b o hb e => (sb.2 b hb).trans e) (by rw [upd_ne niq]; exact f0) f1 f3 f4 f5
    have ru2 : RelV (kV k0) key := relV_key (show keyIs k0 key = true from hkey)
    show wpAny _ A1.in1 (updateSeq q (·.push key) >>= _) _ _ _
    obtain ⟨z, its2, kk, r2, hl2, e2⟩ := I1.lstM upd_same
    have hlt : ((kvs.map fun kv => kV kv.1).take i).length = i := by rw [List.length_take, List.length_map]; omega
    refine wpAny_bind (wpAny_updateSeq e2 rfl (wpAny_pure ⟨plainId_quiet PySem.F.plain_extend_loop _, ?_⟩) (by rw [List.size_toArray, ← hl2, hlt]; omega) (by show (its2.toArray.push key).size ≤ sizeLine + 1; rw [Array.size_push, List.size_toArray, ← hl2, hlt]; omega))
    have e3 : (kvs.map fun kv => kV kv.1).take (i + 1) = (kvs.map fun kv => kV kv.1).take i ++ [kV k0] := by rw [List.take_add_one, List.getElem?_map, hkv]; rfl
    have I2 := I1.lset (f := (·.push key)) (its' := its2 ++ [key]) (ys := (kvs.map fun kv => kV kv.1).take (i + 1)) (t' := s.toks) upd_same e2 (by simp) (by rw [e3]; exact r2.append (.cons ru2 .nil)) (by rw [List.length_take, List.length_map]; omega)
    rw [upd_upd] at I2
    refine ih (i + 1) _ (by omega) I2 (st'.at fun o e => ?_) fp
    exact (Heap.get?_update_other _ _ (Ne.symm niq)).trans e
theorem own_extendK {q : Addr} {Rs : Result → Shared → Prop} {sp : Sp} {m : Nat} (sb : Sub X (k + 1) A1.in1) (hh : A1.in1.handled = none) (ci : ItrK X C fi fdI fld k) (cl : LenC X C fl fdL sp k) (I : Inv X pins σ H s) (hp : H p = some (.ins C dx fs)) (hf : fs.lookup fld = some (.ref d)) (hd : H d = some (.frz o (.dK kvs))) (hsz : kvs.length < sizeLine)
    (hm : m ≤ sizeLine) (hsp : sp [.ref p] H (fun v H' => v = .int (m : Int) ∧ H' = H) E0) (hq : H q = some (.lst [])) (ndq : d ≠ q) (hdone : ∀ s, Inv X pins σ (upd H q (.lst (kvs.map fun kv => kV kv.1))) s → Rs (.ok (.ret .none)) s) (herr : ∀ e s, X.xe e s → Rs (.error e) s) :
    wpAny (model X.prog X.w) A1.in1 (Builtin.List.listExtendWith (.ref q) (.ref p) .none)
      (fun fin s' => match fin with | .done f => Rs (.ok f) s' | .again c' => c'.quiet = true ∧ codeAny (model X.prog X.w) A1 c' Rs s') (fun e s' => Rs (.error e) s') s := by
  have hne : q ≠ p := ne_of hq hp (fun z => nomatch z)
  obtain ⟨mA, J, _⟩ := ins_get I.hok hp
  obtain ⟨od, J, _⟩ := J.look
  unfold Builtin.List.listExtendWith
  refine wpAny_bind (J.type.here ?_)
  have h1 : Builtin.List.listSameRef (.ref q) (.ref p) = false := by simp [Builtin.List.listSameRef, hne]
  have h2 : (Value.ref C == Value.type "list") = false := rfl
  have h3 : (Value.ref C == Value.type "tuple") = false := rfl
  simp only [h1, h2, h3, Bool.or_false, Bool.false_eq_true, if_false]
  refine wpAny_bind (wpAny_mono (own_iterK (Q := fun v s' => ∃ it es ep, v = .ref it ∧ o.data = .dict es ep ∧ H it = none ∧ s.heap.objs.size ≤ it ∧ s'.heap.get? it = some (kitObj d kvs.length ep) ∧ Inv X pins σ H s') (sb.mono (Nat.le_succ k)) ci I hp hf hd fun it es ep s' z a b c e => ⟨it, es, ep, rfl, z, a, b, c, e⟩) (fun v s' hv => ?_) fun e s' he => herr e s' he)
  obtain ⟨it, es, ep, rfl, hdt, hn, hge, eo, I'⟩ := hv
  have fp : FpOk X pins H it := I.fpOk hge hn
  have niq : it ≠ q := fun e => by rw [e, hq] at hn; cases hn
  have hint : wpAny (model X.prog X.w) A1.in1 (Builtin.List.listLengthHint (.ref p)) (fun b s2 => Inv X pins σ H s2 ∧ s2.heap.IsKeyIter it d 0 kvs.length ep) (fun e s' => Rs (.error e) s') s' := by
    obtain ⟨mA', J', _⟩ := ins_get I'.hok hp
    obtain ⟨od', J', _⟩ := J'.look
    have IP : Inv X ((it, kitObj d kvs.length ep) :: pins) σ H s' := I'.pins_of fun r hr => by
      rcases List.mem_cons.mp hr with e | hr
      · rw [e]
        exact ⟨eo, hn, fp.2.1, fp.2.2.1, fun v z => by cases z⟩
      · exact I'.pin r (List.mem_append_right _ hr)
    unfold Builtin.List.listLengthHint
    refine wpAny_bind (wpAny_bind (J'.type.here ((PySem.W.looks_findIn I'.kIn cl.at_).here ?_)))
    refine PySem.W.KFB.if_not rfl ?_
    refine PySem.W.KFB.if_so rfl ?_
    refine wpAny_bind (wpAny_rule ?_)
    refine wpAny_bind (wpAny_attempt ?_)
    refine wpAny_mono (own_len (Q := fun v s2 => ∃ t, v = .int (m : Int) t ∧ Inv X ((it, kitObj d kvs.length ep) :: pins) σ H s2) (E' := fun _ _ => False) (Sub.in1 sb) cl.at_ cl.ty cl.fn cl.bi IP hp hm hsp fun t s2 h => ⟨t, rfl, h⟩) (fun v s2 hv => ?_) (fun e s2 he => he.elim)
    obtain ⟨t, rfl, I2⟩ := hv
    refine wpAny_bind (m := asInt? (.int (m : Int) t)) (wpAny_pure ?_)
    refine PySem.W.KFB.if_not (notLongL (by rw [Int.toNat_natCast]; exact hm)) ?_
    have eo2 := (I2.pin (it, kitObj d kvs.length ep) (List.mem_append_right _ List.mem_cons_self)).1
    exact wpAny_pure ⟨I2.pins_of fun r hr => I2.pin r (List.mem_append_right _ (List.mem_cons_of_mem _ hr)), _, eo2, rfl, rfl⟩
  refine wpAny_bind (wpAny_holding (wpAny_mono hint (fun room s2 hr => ?_) fun _ _ z => z))
  obtain ⟨I2, st2⟩ := hr
  have hupd : upd H q (.lst ((kvs.map fun kv => kV kv.1).take 0)) = H := by
    funext b
    by_cases hb : b = q
    · rw [hb, upd_same, hq]; rfl
    · rw [upd_ne hb]
  obtain ⟨z, its, k3, r3, hl3, e3⟩ := I2.lstM hq
  cases r3
  refine wpAny_ite_split (fun _ => ?_) (fun _ => wpAny_pure ⟨plainId_quiet PySem.F.plain_extend_loop _, ext_loopK hh ndq hd hdt hsz hq hdone kvs.length 0 s2 rfl (by rw [hupd]; exact I2) st2 fp⟩)
  refine wpAny_bind (wpAny_rule ?_)
  refine wpAny_bind ?_
  show wpAny _ _ (updateSeq q (·.push .none) >>= fun _ => updateSeq q (·.pop)) _ _ _
  refine wpAny_bind (wpAny_updateSeq e3 rfl ?_)
  have I4 := I2.lset (f := (·.push Value.none)) (its' := [Value.none]) (ys := [.non]) (t' := s2.toks) hq e3 (by simp) (.cons rfl .nil) (by rw [List.length_singleton, sizeLine_eq]; decide)
  obtain ⟨z4, its4, k4, r4, hl4, e4⟩ := I4.lstM upd_same
  obtain ⟨u4, rfl, ru4⟩ := r4.one
  refine wpAny_updateSeq e4 rfl ?_ (by show 1 ≤ sizeLine; rw [sizeLine_eq]; decide) (by show 0 ≤ sizeLine + 1; exact Nat.zero_le _)
  have I5 := I4.lset (f := (·.pop)) (its := [u4]) (its' := []) (ys := []) (t' := s2.toks) upd_same e4 (by rfl) .nil (Nat.zero_le _)
  rw [upd_upd] at I5
  refine wpAny_pure ⟨plainId_quiet PySem.F.plain_extend_loop _, ext_loopK hh ndq hd hdt hsz hq hdone kvs.length 0 _ rfl I5 ?_ fp⟩
  exact (st2.at fun o e => (Heap.get?_update_other _ _ (Ne.symm niq)).trans e).at fun o e => (Heap.get?_update_other _ _ (Ne.symm niq)).trans e
/-- list(o): a new list of the keys of the dict in the field -/
theorem call_listOwnK {sp : Sp} (ci : ItrK X C fi fdI fld k) (cl : LenC X C fl fdL sp k) (hc : X.calm = true) (hr : Room (k + 3) X.A) :
    CallR X (.type "list") (fun xs H Q => ∃ (p dx d : Addr) (fs : List (Str × V)) (kvs : List (Key × V)) (m : Nat), xs = [.ref p] ∧ H p = some (.ins C dx fs) ∧ fs.lookup fld = some (.ref d) ∧ H d = some (.dK kvs) ∧ kvs.length ≤ 1000 ∧ m ≤ sizeLine ∧
      (∀ H', H' p = some (.ins C dx fs) → Rd H' d (.dK kvs) → sp [.ref p] H' (fun v H'' => v = .int (m : Int) ∧ H'' = H') E0) ∧ ∀ q, H q = none → Q (.ref q) (upd H q (.lst (kvs.map fun kv => kV kv.1)))) := by
  intro pins s σ H xs us Q I rv h
  obtain ⟨p, dx, d, fs, kvs, m, rfl, hp, hf, hd, hz, hm, hsp, hq⟩ := h
  obtain ⟨u, rfl, ru⟩ := rv.one
  cases ru
  have sb : Sub X (k + 1) X.A.in1.in1 := (Sub.in1 (Sub.in1 (⟨hr, rfl⟩ : Sub X (k + 3) X.A)))
  refine callType_codes (Q₁ := fun obj s₁ => obj = .ref s.heap.objs.size ∧ s₁ = { s with heap := s.heap.push { cls := .type "list", data := .seq #[] } }) PySem.F.called_list (PySem.F.typeCall_list_1 _) PySem.F.entry_list_init
    (code_list_new _ ⟨rfl, rfl⟩) fun obj s₁ h₁ => ?_
  obtain ⟨rfl, rfl⟩ := h₁
  have hS : (s.heap.push { cls := .type "list", data := .seq #[] }).get? s.heap.objs.size = some { cls := .type "list", data := .seq #[] } := Heap.get?_push_size _ rfl
  refine ⟨⟨_, hS, rfl⟩, PySem.F.args_list_init_2 _ _, ?_⟩
  have fr : H s.heap.objs.size = none := I.hok.fresh (Nat.le_refl _)
  have hq' := hq _ fr
  have I1 : Inv X pins σ (upd H s.heap.objs.size (.lst [])) { s with heap := s.heap.push { cls := .type "list", data := .seq #[] } } := I.lnew (its := []) (t' := s.toks) .nil (Nat.zero_le _)
  show wpAny _ _ (do let old ← Builtin.List.listItems (.ref s.heap.objs.size); Builtin.List.listUpdate (.ref s.heap.objs.size) (fun _ => #[]); letGo old.toList.reverse; Builtin.List.listExtendWith (.ref s.heap.objs.size) (.ref p) .none) _ _ _
  refine wpAny_bind ?_
  unfold Builtin.List.listItems
  refine wpAny_bind (wpAny_seqItems hS rfl (wpAny_pure ?_))
  show wpAny _ _ (updateSeq s.heap.objs.size (fun _ => #[]) >>= fun _ => letGo (#[] : Array Value).toList.reverse >>= fun _ => Builtin.List.listExtendWith (.ref s.heap.objs.size) (.ref p) .none) _ _ _
  refine wpAny_bind (wpAny_updateSeq hS rfl ?_)
  have I2 := I1.lset (f := fun _ => #[]) (its := []) (its' := []) (ys := []) (t' := s.toks) upd_same hS rfl .nil (Nat.zero_le _)
  rw [upd_upd] at I2
  refine wpAny_bind (wpAny_letGo ?_)
  have ndq : d ≠ s.heap.objs.size := ne_of_none hd fr
  have hd2 : upd H s.heap.objs.size (.lst []) d = some (.dK kvs) := by rw [upd_ne ndq]; exact hd
  have hp2 : upd H s.heap.objs.size (.lst []) p = some (.ins C dx fs) := by rw [upd_ne (ne_of_none hp fr)]; exact hp
  have npd : p ≠ d := ne_of hp hd (fun z => nomatch z)
  have nf := I2.nofrz hd2 True.intro
  obtain ⟨o, I3⟩ := I2.lock hd2 True.intro
  have hp3 : upd (upd H s.heap.objs.size (.lst [])) d (.frz o (.dK kvs)) p = some (.ins C dx fs) := by rw [upd_ne npd]; exact hp2
  refine own_extendK (q := s.heap.objs.size) (A1 := X.A.in1) (Rs := wants (fun r s₂ => r = .none ∧ EP X pins σ Q (.ref s.heap.objs.size) s₂) X.xe) sb (I.ok.hd hc) ci cl I3 hp3 hf upd_same (Nat.lt_of_le_of_lt hz (by decide)) hm (hsp _ hp3 (.inr ⟨o, upd_same⟩)) (by rw [upd_ne (Ne.symm ndq)]; exact upd_same) ndq
    (fun s' I' => ⟨rfl, .ref s.heap.objs.size, _, I'.unlock (by rw [upd_ne ndq]; exact upd_same) nf, rfl, ?_⟩) (fun e s' he => he)
  have e : upd (upd (upd (upd H s.heap.objs.size (.lst [])) d (.frz o (.dK kvs))) s.heap.objs.size (.lst (kvs.map fun kv => kV kv.1))) d (.dK kvs) = upd H s.heap.objs.size (.lst (kvs.map fun kv => kV kv.1)) := by
    funext b
    by_cases hb : b = d
    · rw [hb, upd_same, upd_ne ndq, hd]
    · rw [upd_ne hb]
      by_cases hb2 : b = s.heap.objs.size
      · rw [hb2, upd_same, upd_same]
      · rw [upd_ne hb2, upd_ne hb, upd_ne hb2, upd_ne hb2]
  rw [e]; exact hq'
end
end RK

set_option maxRecDepth 100000
set_option maxHeartbeats 2000000
/-! an own exception with its own __init__, made where nothing is handled: its context is None -/
namespace RN
open PySem PySem.Spec PyProof.Rows L2
section
variable {X : Cx} {e : Expr} {es : List Expr} {ta : TA} {p pos : Pos}
theorem mk_endN {pins : List (Addr × Obj)} {σ : L2.St} {Ha Hb : Hp} {Q : XK} {hh hh2 hb2 : Heap} {gg gg2 : Array GenState} {d1 dd2 : Drawn} {t1 tt2 : Nat} {oz oz2 : OsState} {a C d : Addr} {fs : List (Str × V)} (T : Raises X (.ref C)) (Ia : Inv X pins σ Ha ⟨hh, gg, d1, t1, oz⟩)
    (ha : hh.objs.size ≤ a) (k : ∀ b o, hh.get? b = some o → hh2.get? b = some o) (un : Un (frs X.stack) [] (upd Ha a (exo a C none)) Hb hh2 hb2) (hok : HOk X.prog X.w Hb hb2) (ho : oz2 = oz) (hb : AllBare gg2)
    (ea : Hb a = some (exo a C (some d))) (ed : Hb d = some (exd d fs)) (hd1 : Ha d = none) (q : Q (.ref C) (some d) (upd (del Hb a) d (.xd fs))) : L2N.MkP X pins σ Q (.ref a) ⟨hb2, gg2, dd2, tt2, oz2⟩ := by
  obtain ⟨t0, G, J, kG, ge, hoe, na⟩ := mk_end0 (d2 := dd2) (t2 := tt2) Ia ha k un hok ho hb ea ed hd1
  exact ⟨a, _, _, ⟨G, gg2, dd2, tt2, oz2⟩, _, .ref C, some d, rfl, J, kG, ge, hoe, ⟨rfl, rfl, fun vs hv => by cases hv; rfl⟩, rfl, rfl, na, rfl, hb, T, q⟩
theorem pmk_oexN {CX : CXT} {x : Str} {C fI : Addr} {k : Nat} {fd : FuncData} {ps : List Str} {sp : Sp} {dz : List Value} {dvz : List V} (T : OexC X.K C) (iC : PySem.W.findIn X.K (.ref C) "__init__" = some (some (.ref fI))) (tI : PySem.W.typeIn X.K (.ref fI) = some (.type "function"))
    (F1 : FnOk X.prog X.w X.K X.mg X.base CX k fI fd ps sp) (hr : Room (k + 1) X.A) (hb : Binds X.K fd ps dz) (hd : Vals dvz dz) (hx : Passes CX X (fun _ _ _ => False)) (hg : Gl X x) (hm : X.mg x = some (.ref C)) (ha : PA X (e :: es) ta)
    (hdb : (x == ("__debug__" : Str)) = false := by decide) (he : starEach (e :: es) X.env = (false, eval e X.env) :: starEach es X.env := by rfl) (hpl : (backTo pos (starEach es X.env)).any (·.1) = false := by rfl) :
    L2N.PMk X (.Call (.Name x p) (e :: es) [] pos) (tMkO C sp dvz ta) := by
  intro pins s σ H Q I h
  obtain ⟨nm, q, N, bs, bm, sn, sub, ab, col, dd, k0, k1, k2, k3, k5, hC, hbm⟩ := T.cls
  refine wpAny_Call_Name_kw (ld_glob I hg hm ?_ hdb)
  refine PySem.W.callWith_K (h₀ := X.base) I.ok.mod.kin T.kC (thn (ha.run pos pins s σ H _ I h) fun uu sa ⟨vv, Ha, Ia, ra, hz, qa⟩ => ⟨Ia.kIn, ?_⟩) he hpl
  show wpAny _ _ (call (.ref C) uu) _ _ _
  obtain ⟨hh, gg, dr, kt, oz⟩ := sa
  have hle : hh.objs.size ≤ hh.objs.size + 1 := Nat.le_succ _
  have hna : Ha (hh.objs.size + 1) = none := Ia.hok.fresh hle
  have hqa := qa (hh.objs.size + 1) hna
  have kp : ∀ b o, hh.get? b = some o → ((hh.push (PySem.W.kdv_tup uu)).push (PySem.HandSPX.excO C hh.objs.size)).get? b = some o := fun b o e => Heap.get?_push_of_some _ (Heap.get?_push_of_some _ e)
  have hob : ((hh.push (PySem.W.kdv_tup uu)).push (PySem.HandSPX.excO C hh.objs.size)).get? (hh.objs.size + 1) = some (PySem.HandSPX.excO C hh.objs.size) := by heap_get
  have Ib : Inv X pins σ (upd Ha (hh.objs.size + 1) (exo (hh.objs.size + 1) C none)) ⟨(hh.push (PySem.W.kdv_tup uu)).push (PySem.HandSPX.excO C hh.objs.size), gg, dr, kt, oz⟩ :=
    Ia.laid (t' := kt) (a := hh.objs.size + 1) (o := exo (hh.objs.size + 1) C none) (h' := (hh.push (PySem.W.kdv_tup uu)).push (PySem.HandSPX.excO C hh.objs.size)) kp hle (exo_ok hob)
  have rb : Vals (V.ref (hh.objs.size + 1) :: (vv ++ dvz)) (Value.ref (hh.objs.size + 1) :: (uu ++ dz)) := .cons rfl (ra.append hd)
  have hlen : (Value.ref (hh.objs.size + 1) :: uu ++ dz).length = ps.length := by
    have e := rb.length
    rw [F1.len _ _ _ _ hqa] at e
    exact e.symm
  have huu : uu.length ≤ sizeLine := by
    rw [← Paired.length ra, sizeLine_eq]
    omega
  refine wpAny_call (PySem.HandSPX.call_own F.excBase_ValueError (fun Y => PySem.HandSPX.refsVE_contains Y bm hbm) (Ia.kIn _ _ hC) (PySem.W.looks_findIn Ia.kIn iC) (fun self => PySem.W.bind_fn Ia.kIn self tI) huu
    (codeAny_mono (F1.run _ X.stack _ _ ⟨Value.ref (hh.objs.size + 1) :: uu, []⟩ (Value.ref (hh.objs.size + 1) :: (uu ++ dz)) _ _ (fun _ _ _ => False) (hr.make C uu []) (Ib.env0.make C uu []) (hb _ (Value.ref (hh.objs.size + 1) :: uu) Ib.kIn hlen) rb hqa) fun r s' hqq => ?_))
  cases r with
  | error erx => exact hx pins σ _ _ erx s' Ib hqq
  | ok fl =>
    cases fl with
    | ret u =>
      obtain ⟨v, Hb, oz2, bar2, unb, hokb, rvv, evv, d, fs, ea, ed, hd1, qb⟩ := hqq
      subst evv
      obtain ⟨hb2, gg2, dd2, tt2, os'⟩ := s'
      exact ⟨rvv, mk_endN (raises_own T.exC T.tyC) Ia hle kp unb hokb oz2 bar2 ea ed hd1 qb⟩
    | next => exact False.elim hqq
    | brk => exact False.elim hqq
    | cont => exact False.elim hqq

end
theorem takes0N {X : Cx} : L2N.Takes X (fun _ _ _ _ => False) := fun _ _ x => by
  obtain ⟨_, _, _, _, _, _, _, _, _, _, _, _, _, _, _, _, z⟩ := x
  exact z.elim
/-- a def that may raise where nothing is handled -/
theorem okXN {P : Program} {w : World} {K : PySem.W.Frag} {mg : Str → Option Value} {base : Heap} {x qual : Str} {st : Stmt} {f : Addr} {fd : FuncData} {N ps : List Str} {k : Nat} {sp : Sp} (F : Fun K x qual st f fd) (S : FnScope N ps (defScope st)) (hl : ∀ vs H Q E, sp vs H Q E → vs.length = ps.length)
    (hb : ∀ (cdv : Value) (A : Around) (outer : List Env) (s : Shared) (H : Hp) (vs : List V) (Q : VK) (E : XK), Room k (A.deeper (envOfC qual (defScope st) s.heap.objs.size f cdv)) → sp vs H Q E →
      ∃ u, PSs (cxOf (L2N.CX P w) P w K mg base N qual (defScope st) f cdv A outer s H E) (defBody st) u ∧ u { nx := fun _ G => Q .non G, rt := Q } (start N vs) H) : FnOk P w K mg base (L2N.CX P w) (k + 1) f fd ps sp := by
  obtain ⟨c1, c2, c3, c4, c5, c6, c7, c8, c9, rfl, lk, hcd⟩ := F.ex
  exact fn_of lk hcd S hl fun A outer s H vs Q E hr hsp => hb c7 A outer s H vs Q E hr hsp
/-- a def called inside an except suite -/
theorem okH {P : Program} {w : World} {K : PySem.W.Frag} {mg : Str → Option Value} {base : Heap} {x qual : Str} {st : Stmt} {f : Addr} {fd : FuncData} {N ps : List Str} {k : Nat} {sp : Sp} (F : Fun K x qual st f fd) (S : FnScope N ps (defScope st)) (hl : ∀ vs H Q E, sp vs H Q E → vs.length = ps.length)
    (hb : ∀ (cdv : Value) (A : Around) (outer : List Env) (s : Shared) (H : Hp) (vs : List V) (Q : VK) (E : XK) (p : Addr × Obj), sp vs H Q E →
      ∃ u, PSs (L2H.cxH CX0 P w K mg base N qual (defScope st) f cdv A outer s H E p) (defBody st) u ∧ u { nx := fun _ G => Q .non G, rt := Q } (start N vs) H) : L2H.FnH P w K mg base CX0 (k + 1) f fd ps sp := by
  obtain ⟨c1, c2, c3, c4, c5, c6, c7, c8, c9, rfl, lk, hcd⟩ := F.ex
  exact L2H.fn_ofH lk hcd S hl fun A outer s H vs Q E p _ _ hsp => hb c7 A outer s H vs Q E p hsp
end RN

set_option maxRecDepth 100000
set_option maxHeartbeats 4000000
namespace K24
open PySem PySem.Spec PyProof.Rows L2 PySem.W PySem.Calls
/-! ### heaps -/
theorem same_new {H : Hp} {p : Addr} {o : HO} (h : H p = none) : Same H (upd H p o) := fun b x e => by
  rw [upd_ne (ne_of_none e h)]; exact e
theorem same_at {H H' : Hp} {o : Addr} {x : HO} (s : Same H H') (h : H o = none) : Same H (upd H' o x) := fun b z e => by
  rw [upd_ne (ne_of_none e h)]; exact s b z e
theorem same_new2 {H H' : Hp} {p : Addr} {o : HO} (s : Same H H') (h : H' p = none) : Same H (upd H' p o) := fun b z e => by
  have e2 := s b z e
  rw [upd_ne (ne_of_none e2 h)]; exact e2
theorem map_snoc (rs : List Int) (r : Int) : rs.map V.int ++ [V.int r] = (rs ++ [r]).map V.int := by rw [List.map_append]; rfl
theorem map_snocS (rs : List Str) (r : Str) : rs.map V.str ++ [V.str r] = (rs ++ [r]).map V.str := by rw [List.map_append]; rfl
/-! ### texts as lists -/
abbrev tl (z : Str) : List Nat := z.cps.toList
theorem tl_len (z : Str) : (tl z).length = z.length := by simp [tl, Str.length]
theorem str_eq {a b : Str} (h : tl a = tl b) : a = b := by
  obtain ⟨x⟩ := a; obtain ⟨y⟩ := b
  show (⟨x⟩ : Str) = ⟨y⟩
  congr 1
  apply Array.toList_inj.mp; simpa [tl] using h
theorem str_of {z : Str} {x : Nat} (h : tl z = [x]) : z = ⟨#[x]⟩ := str_eq h
theorem str_mk (z : Str) : z = ⟨(tl z).toArray⟩ := str_eq rfl
theorem tl_add (a b : Str) : tl (a ++ b) = tl a ++ tl b := by
  show (a.cps ++ b.cps).toList = _
  rw [Array.toList_append]
theorem len_add (a b : Str) : (a ++ b).length = a.length + b.length := by
  show (a.cps ++ b.cps).size = _
  rw [Array.size_append]; rfl
theorem lt_one (x y : Nat) : decide ([x] < [y]) = !decide (y ≤ x) := by
  have e : decide ([x] < [y]) = decide (x < y) := by simp [List.cons_lt_cons_iff]
  rw [e]
  by_cases h : y ≤ x
  · rw [decide_eq_true h, decide_eq_false (by omega)]; rfl
  · rw [decide_eq_false h, decide_eq_true (by omega)]; rfl
theorem eqS (a b : Nat) : decide (V.str ⟨#[a]⟩ = V.str ⟨#[b]⟩) = decide (a = b) := by
  refine decide_eq_decide.mpr ⟨fun h => ?_, fun h => by rw [h]⟩
  injection h with h1
  have h2 := congrArg tl h1
  simpa [tl] using h2
theorem eqT (a b : Str) : decide (V.str a = V.str b) = decide (tl a = tl b) := by
  refine decide_eq_decide.mpr ⟨fun h => ?_, fun h => by rw [str_eq h]⟩
  injection h with h1
  rw [h1]
theorem eqI (a b : Int) : decide (V.int a = V.int b) = decide (a = b) := by
  refine decide_eq_decide.mpr ⟨fun h => ?_, fun h => by rw [h]⟩
  injection h
theorem cut_tl (z : Str) (a b : Nat) : tl (cutS z (some (a : Int)) (some (b : Int))) = ((tl z).drop (min a z.length)).take (min b z.length - min a z.length) := by
  unfold cutS tl
  rw [HT.sIx_nat, HT.sIx_nat]
theorem cut_to (z : Str) (b : Nat) : tl (cutS z none (some (b : Int))) = (tl z).take b := by
  unfold cutS tl
  rw [HT.sIx_none, HT.sIx_nat]
  show (z.cps.toList.drop 0).take (min b z.length - 0) = _
  rw [List.drop_zero, Nat.sub_zero]
  by_cases h : b ≤ z.length
  · rw [Nat.min_eq_left h]
  · rw [Nat.min_eq_right (by omega), List.take_of_length_le (by rw [tl_len]; exact Nat.le_refl _), List.take_of_length_le (by rw [tl_len]; omega)]
theorem cut_from (z : Str) (a : Nat) : tl (cutS z (some (a : Int)) none) = (tl z).drop a := by
  unfold cutS tl
  rw [HT.sIx_none, HT.sIx_nat]
  show (z.cps.toList.drop (min a z.length)).take (z.length - min a z.length) = _
  by_cases h : a ≤ z.length
  · rw [Nat.min_eq_left h, List.take_of_length_le (by rw [List.length_drop, tl_len]; exact Nat.le_refl _)]
  · rw [Nat.min_eq_right (by omega), Nat.sub_self, List.take_zero, List.drop_of_length_le (by rw [tl_len]; omega)]
theorem joinL_flat : ∀ ls : List (List Nat), TL.joinL [] ls = ls.flatten
  | [] => rfl
  | [p] => by simp [TL.joinL]
  | p :: q :: r => by
    have h := joinL_flat (q :: r)
    simp only [TL.joinL, List.nil_append, h, List.flatten_cons]
theorem tl_joined {e : Str} (he : tl e = []) (ys : List Str) : tl (Txt.join e ys) = (ys.map tl).flatten := by
  have h1 : TL.tl (Txt.join e ys) = TL.joinL (TL.tl e) (ys.map TL.tl) := by rw [TL.join_eq, TL.tl_join]
  have h2 : TL.tl e = [] := he
  rw [h2, joinL_flat] at h1
  exact h1
/-- texts of one sign each, joined -/
theorem join_ones (cs : List Nat) : tl (Txt.join (Str.ofString "") (cs.map fun c => (⟨#[c]⟩ : Str))) = cs := by
  rw [tl_joined (by decide +kernel), List.map_map]
  induction cs with
  | nil => rfl
  | cons c cs ih => simp only [List.map_cons, List.flatten_cons, ih]; rfl
theorem sum_ones (cs : List Nat) : ((cs.map fun c => (⟨#[c]⟩ : Str)).map (·.length)).sum = cs.length := by
  induction cs with
  | nil => rfl
  | cons c cs ih => simp only [List.map_cons, List.sum_cons, ih, List.length_cons]; show 1 + _ = _; omega
theorem pick {z : Str} {r : Int} (h0 : 0 ≤ r) (h1 : r < (z.length : Int)) : ∃ c, atI z.cps.toList r = some c ∧ c ∈ tl z := by
  have h2 : r.toNat < z.cps.toList.length := by rw [Array.length_toList]; have : z.length = z.cps.size := rfl; omega
  have h3 : ((r.toNat : Nat) : Int) = r := by omega
  have h4 := atI_nat (List.getElem?_eq_getElem h2)
  rw [h3] at h4
  exact ⟨_, h4, List.getElem_mem h2⟩
theorem cutV_nat (xs : List V) {a b : Nat} (hab : a ≤ b) (hb : b ≤ xs.length) : cutV xs (some (a : Int)) (some (b : Int)) = (xs.drop a).take (b - a) := by
  unfold cutV
  rw [HT.sIx_nat, HT.sIx_nat, Nat.min_eq_left hb, Nat.min_eq_left (Nat.le_trans hab hb)]
def isL (x : Nat) : Bool := decide (97 ≤ x) && decide (x ≤ 122)
def letters : Str := Str.ofString "abcdefghijklmnopqrstuvwxyz"
theorem letters_L : ∀ c ∈ tl letters, isL c = true := by decide +kernel
theorem letters_len : letters.length = 26 := by decide +kernel
/-! the text -/
def topS (i : Nat) : Stmt := PySem.Challenge.pw_laidforall_k24_faces.main.body.getD i (.Pass ⟨0, 0, 0, 0⟩)
abbrev sBFInit : Stmt := inClass (topS 3) 0
abbrev sInit : Stmt := inClass (topS 6) 0
abbrev sHas : Stmt := inClass (topS 6) 1
abbrev sLen : Stmt := inClass (topS 6) 2
abbrev sIter : Stmt := inClass (topS 6) 3
abbrev sAdv : Stmt := inClass (topS 6) 4
abbrev sOut : Stmt := inClass (topS 6) 5
abbrev sCall : Stmt := inClass (topS 6) 6
abbrev sCell : Stmt := topS 8
abbrev sRow : Stmt := topS 9
abbrev sSame : Stmt := topS 10
abbrev sSigns : Stmt := topS 11
abbrev sOutline : Stmt := topS 12
abbrev sPlan : Stmt := topS 13
abbrev sString : Stmt := topS 14
abbrev sAdvance : Stmt := topS 15
abbrev sDrawn : Stmt := topS 16
abbrev sWidth : Stmt := topS 17
abbrev sRight : Stmt := topS 18
abbrev sSpoilt : Stmt := topS 19
abbrev sFirst : Stmt := topS 20
abbrev sRefused : Stmt := topS 21
abbrev sLaw : Stmt := topS 22
structure Blt (mg : Str → Option Value) : Prop where
  len : mg "len" = none
  int : mg "int" = none
  str : mg "str" = none
  bool : mg "bool" = none
  tuple : mg "tuple" = none
  list : mg "list" = none
  range : mg "range" = none
  isi : mg "isinstance" = none
  iter : mg "iter" = none
  sum : mg "sum" = none
  ve : mg "ValueError" = none
def Cst (mg : Str → Option Value) (t1 : Tok) : Prop := mg "BLANK" = some (.str (Str.ofString " ") t1)
section
variable {P : Program} {w : World} {K : PySem.W.Frag} {mg : Str → Option Value} {base : Heap}
/-! ### _law_cell -/
def spCell (K : PySem.W.Frag) : Sp := fun vs H Q _ => ∃ (a : Addr) (ns : List Int) (k : Int), vs = [.ref a, .int k] ∧ SqL K H a (ns.map V.int) ∧ ns.length ≤ 63 ∧ 0 ≤ k ∧ ∀ c, Q (.int c) H
theorem scCell : FnScope ["_law_script", "_law_k"] ["_law_script", "_law_k"] (defScope sCell) := ⟨rfl, rfl, rfl, by decide +kernel, rfl, by decide +kernel, by decide +kernel⟩
theorem ok_cell {f : Addr} {fd : FuncData} (B : Blt mg) (F : Fun K "_law_cell" "_law_cell" sCell f fd) : FnOk P w K mg base CX0 1 f fd ["_law_script", "_law_k"] (spCell K) := by
  refine F.ok scCell (fun vs H Q E h => ?_) (fun cdv A outer s H vs Q E hr h => ?_)
  · obtain ⟨a, ns, k, rfl, _⟩ := h; rfl
  · obtain ⟨a, ns, k, rfl, hS, hlen, h0, q⟩ := h
    refine ⟨_, pss_cons (ps_if (pt_cmpR op_lt (pv 1) (pe_callB call_len (by rfl) B.len PySem.boot_len (pa_cons (pv 0) pa_nil)) (nomark _)) (pss_one (ps_ret (pe_callTy call_int1 (by rfl) B.int (by decide +kernel) (pa_cons (pe_ix ix_list (pv 0) (pv 1) (fun _ _ => rfl)) pa_nil)))) pss_nil)
      (pss_one (ps_ret pe_int)), ?_⟩
    refine ⟨.int k, rfl, .ref a, rfl, .ref a, (ns.map V.int).length, rfl, .inl ⟨_, hS, rfl⟩, k, _, rfl, rfl, _, rfl, ite2 (fun hk => ?_) (fun _ => ?_)⟩
    · have hk' : k < ((ns.map V.int).length : Int) := of_decide_eq_true hk
      rw [List.length_map] at hk'
      have hlt : k.toNat < ns.length := by omega
      exact ⟨.ref a, rfl, .int k, rfl, a, _, k, .int (ns[k.toNat]'hlt), rfl, rfl, hS, at_of (j := k.toNat) (by omega) (by rw [List.getElem?_map]; simp [hlt]), .inl ⟨_, rfl, q _⟩⟩
    · exact q _
/-! ### _law_row -/
theorem map_snoc' (rs : List Int) (r : Int) : rs.map V.int ++ [V.int r] = (rs ++ [r]).map V.int := by rw [List.map_append]; rfl
def RowOf (ls rs : List Int) : Prop := rs.length = ls.length ∧ ∀ (i : Nat) (l : Int), ls[i]? = some l → ∃ r, rs[i]? = some r ∧ 0 ≤ r ∧ r < l
def spRow (K : PySem.W.Frag) : Sp := fun vs H Q _ => ∃ (c : Int) (a : Addr) (ls : List Int), vs = [.int c, .ref a] ∧ SqL K H a (ls.map V.int) ∧ ls.length ≤ 1000 ∧ (∀ l ∈ ls, 0 < l ∧ l < 1000000) ∧
  ∀ H' p rs, Same H H' → H p = none → H' p = some (.lst (rs.map V.int)) → RowOf ls rs → Q (.ref p) H'
theorem scRow : FnScope ["_law_cell_here", "_law_limits", "_law_row_here", "_law_rest", "_law_limit", "_law_k", "_law_mixed"] ["_law_cell_here", "_law_limits"] (defScope sRow) := ⟨rfl, rfl, rfl, by decide +kernel, rfl, by decide +kernel, by decide +kernel⟩
theorem ok_row {f : Addr} {fd : FuncData} (B : Blt mg) (F : Fun K "_law_row" "_law_row" sRow f fd) : FnOk P w K mg base CX0 1 f fd ["_law_cell_here", "_law_limits"] (spRow K) := by
  refine F.ok scRow (fun vs H Q E h => ?_) (fun cdv A outer s H vs Q E hr h => ?_)
  · obtain ⟨c, a, ls, rfl, _⟩ := h; rfl
  · obtain ⟨c, a, ls, rfl, hS, hlen, hpos, q⟩ := h
    refine ⟨_, (pss_cons (ps_set (i := 2) scRow.nd rfl (.inl rfl) (pe_lst pa_nil))
      (pss_cons (ps_if (pt_cmpR op_ge (pv 0) pe_int (nomark _))
      (pss_cons (ps_set (i := 3) scRow.nd rfl (.inl rfl) (pe_op op_sub (pv 0) pe_int))
       (pss_cons (ps_for (PassesOwn.never) rfl (pi_list (pv 1)) (pg_name (i := 4) scRow.nd rfl (.inl rfl))
       (pss_cons (ps_expr (pe_bm PySem.F.plainAttrs_list PySem.F.slot_list_append PySem.F.type_list_append mt_append (pv 2) (pa_cons (pe_op op_modN (pe_callTy call_int1 (by rfl) B.int (by decide +kernel) (pa_cons (pv 3) pa_nil)) (pv 4)) pa_nil)))
        (pss_one (ps_set (i := 3) scRow.nd rfl (.inl rfl) (pe_op op_fdivN (pv 3) (pv 4))))))
       (pss_one (ps_ret (pv 2)))))
      pss_nil)
      (pss_cons (ps_for (PassesOwn.never) rfl (pi_range1 (by rfl) B.range (pa_cons (pe_callB call_len (by rfl) B.len PySem.boot_len (pa_cons (pv 1) pa_nil)) pa_nil)) (pg_name (i := 5) scRow.nd rfl (.inl rfl))
      (pss_cons (ps_set (i := 6) scRow.nd rfl (.inl rfl) (pe_op op_modN (pe_callTy call_int1 (by rfl) B.int (by decide +kernel) (pa_cons (pe_op op_add (pe_op op_add (pe_op op_mul (pv 0) pe_int) (pe_op op_mul (pv 5) pe_int)) pe_int) pa_nil)) pe_int))
       (pss_cons (ps_set (i := 6) scRow.nd rfl (.inl rfl) (pe_op op_modN (pe_callTy call_int1 (by rfl) B.int (by decide +kernel) (pa_cons (pe_op op_add (pe_op op_add (pe_op op_mul (pv 6) (pe_op op_add pe_int (pe_op op_mul pe_int (pv 5)))) (pe_op op_mul (pe_op op_mul (pv 5) (pv 5)) pe_int)) pe_int) pa_nil)) pe_int))
       (pss_one (ps_expr (pe_bm PySem.F.plainAttrs_list PySem.F.slot_list_append PySem.F.type_list_append mt_append (pv 2) (pa_cons (pe_op op_modN (pe_callTy call_int1 (by rfl) B.int (by decide +kernel) (pa_cons (pe_op op_fdivN (pv 6) pe_int) pa_nil)) (pe_ix ix_list (pv 1) (pv 5) (fun _ _ => rfl))) pa_nil)))))))
      (pss_one (ps_ret (pv 2)))))), ?_⟩
    refine ⟨Nat.zero_le _, fun o no => ?_⟩
    have s1 : Same H (upd H o (.lst [])) := same_new no
    have eo : (upd H o (.lst [])) o = some (.lst (([] : List Int).map V.int)) := upd_same
    generalize upd H o (.lst []) = H1 at s1 eo ⊢
    have more : ∀ (n : Nat) (rs : List Int) (l : Int), ls[n]? = some l → rs.length = n → (∀ (i : Nat) (l : Int), i < n → ls[i]? = some l → ∃ r, rs[i]? = some r ∧ 0 ≤ r ∧ r < l) → ∀ x : Int, ∀ (i : Nat) (m : Int), i < n + 1 → ls[i]? = some m → ∃ r, (rs ++ [x.fmod l])[i]? = some r ∧ 0 ≤ r ∧ r < m := by
      intro n rs l hl hrs hrow x i m hi hm
      have hp := hpos l (List.mem_of_getElem? hl)
      by_cases hin : i < n
      · obtain ⟨r, h1, h2, h3⟩ := hrow i m hin hm
        exact ⟨r, by rw [List.getElem?_append_left (by omega)]; exact h1, h2, h3⟩
      · obtain rfl : i = n := by omega
        rw [hl] at hm; cases hm
        exact ⟨_, by rw [List.getElem?_append_right (by omega), hrs, Nat.sub_self]; rfl, Int.fmod_nonneg_of_pos _ hp.1, Int.fmod_lt_of_pos _ hp.1⟩
    refine ⟨.int c, rfl, c, 1000000000000000000, rfl, rfl, _, rfl, ite2 (fun _ => ?_) (fun _ => ?_)⟩
    · refine ⟨.int c, rfl, c, 1000000000000000000, rfl, rfl, .ref a, rfl, a, rfl, ⟨_, s1.seq hS⟩, for_list (K := K) (a := a) (xs := ls.map V.int) (fun n σ H' => ∃ (rest : Int) (y4 y5 y6 : Option V) (rs : List Int), σ = [some (.int c), some (.ref a), some (.ref o), some (.int rest), y4, y5, y6] ∧ Same H H' ∧ H' o = some (.lst (rs.map V.int)) ∧ rs.length = n ∧
        ∀ (i : Nat) (l : Int), i < n → ls[i]? = some l → ∃ r, rs[i]? = some r ∧ 0 ≤ r ∧ r < l) ⟨_, none, none, none, [], rfl, s1, eo, rfl, fun i l h => absurd h (Nat.not_lt_zero i)⟩ (fun n σ H' _ ⟨_, _, _, _, _, _, sm, _⟩ => sm.seq hS) ?_ ?_⟩
      · rintro n x σ H' hn ⟨rest, y4, y5, y6, rs, rfl, sm, ho, hl, hrow⟩
        rw [List.getElem?_map] at hn
        cases en : ls[n]? with
        | none => rw [en] at hn; cases hn
        | some l =>
        rw [en] at hn; cases hn
        have hp := hpos l (List.mem_of_getElem? en)
        have hlt := (List.getElem?_eq_some_iff.mp en).1
        have hsz : (rs.map V.int).length < sizeLine := by rw [List.length_map]; exact small1000 (by omega)
        refine ⟨.ref o, rfl, .inl ⟨rfl, _, SqL.of ho⟩, .int rest, rfl, .inl ⟨rest, rfl, .int l, rfl, rest, l, rfl, rfl, by omega, o, _, _, rfl, rfl, ho, hsz, ?_⟩⟩
        refine ⟨.int rest, rfl, .int l, rfl, rest, l, rfl, rfl, ⟨by omega, by omega⟩, ?_⟩
        exact ⟨_, _, _, _, _, rfl, same_at sm no, by rw [upd_same, map_snoc'], by rw [List.length_append, hl]; rfl, more n rs l en hl hrow rest⟩
      · rintro σ H' ⟨rest, y4, y5, y6, rs, rfl, sm, ho, hl, hrow⟩
        rw [List.length_map] at hl hrow
        exact ⟨.ref o, rfl, q H' o rs sm no ho ⟨hl, fun i l hli => hrow i l (List.getElem?_eq_some_iff.mp hli).1 hli⟩⟩
    · refine ⟨.ref a, rfl, .ref a, (ls.map V.int).length, rfl, .inl ⟨_, s1.seq hS, rfl⟩, ((ls.map V.int).length : Int), rfl, by omega, by rw [List.length_map]; omega, ?_⟩
      rw [Int.toNat_natCast, List.length_map]
      refine for_range (lo := 0) (n := ls.length) (fun n σ H' => ∃ (y3 y4 y5 y6 : Option V) (rs : List Int), σ = [some (.int c), some (.ref a), some (.ref o), y3, y4, y5, y6] ∧ Same H H' ∧ H' o = some (.lst (rs.map V.int)) ∧ rs.length = n ∧
        ∀ (i : Nat) (l : Int), i < n → ls[i]? = some l → ∃ r, rs[i]? = some r ∧ 0 ≤ r ∧ r < l) ⟨none, none, none, none, [], rfl, s1, eo, rfl, fun i l h => absurd h (Nat.not_lt_zero i)⟩ ?_ ?_
      · rintro n σ H' hn ⟨y3, y4, y5, y6, rs, rfl, sm, ho, hl, hrow⟩
        have e0 : (0 : Int) + (n : Int) = (n : Int) := by omega
        rw [e0]
        have hSn : SqL K H' a (ls.map V.int) := sm.seq hS
        have en : ls[n]? = some (ls[n]'hn) := by simp [hn]
        have hat : (ls.map V.int)[n]? = some (.int (ls[n]'hn)) := by rw [List.getElem?_map, en]; rfl
        have hp := hpos (ls[n]'hn) (List.getElem_mem hn)
        have hsz : (rs.map V.int).length < sizeLine := by rw [List.length_map]; exact small1000 (by omega)
        refine ⟨.int c, rfl, c, 48271, rfl, rfl, .inr ⟨by decide, by decide⟩, .int (n : Int), rfl, (n : Int), 69621, rfl, rfl, .inr ⟨by decide, by decide⟩, _, _, rfl, rfl, _, 11, rfl, rfl, .inl ⟨_, rfl, _, 2147483647, rfl, rfl, (show (2147483647 : Int) ≠ 0 by decide), ?_⟩⟩
        have hm0 : 0 ≤ (c * 48271 + (n : Int) * 69621 + 11).fmod 2147483647 := Int.fmod_nonneg_of_pos _ (by decide)
        have hm1 : (c * 48271 + (n : Int) * 69621 + 11).fmod 2147483647 < 2147483647 := Int.fmod_lt_of_pos _ (by decide)
        refine ⟨_, rfl, .int (n : Int), rfl, 2, (n : Int), rfl, rfl, .inl ⟨by decide, by decide⟩, 16807, _, rfl, rfl, (c * 48271 + (n : Int) * 69621 + 11).fmod 2147483647, _, rfl, rfl, .inl ⟨Int.lt_of_lt_of_le (by decide) hm0, Int.lt_trans hm1 (by decide)⟩, .int (n : Int), rfl, .int (n : Int), rfl, (n : Int), (n : Int), rfl, rfl, .inl ⟨by omega, by omega⟩, _, 40692, rfl, rfl, .inr ⟨by decide, by decide⟩, _, _, rfl, rfl, _, 7, rfl, rfl, .inl ⟨_, rfl, _, 2147483399, rfl, rfl, (show (2147483399 : Int) ≠ 0 by decide), ?_⟩⟩
        refine ⟨.ref o, rfl, .inl ⟨rfl, _, SqL.of ho⟩, _, rfl, _, 31, rfl, rfl, ⟨by decide, by decide⟩, .inl ⟨_, rfl, .ref a, rfl, .int (n : Int), rfl, a, _, (n : Int), .int (ls[n]'hn), rfl, rfl, hSn, atI_nat hat, _, ls[n]'hn, rfl, rfl, by omega, o, _, _, rfl, rfl, ho, hsz, ?_⟩⟩
        exact ⟨_, _, _, _, _, rfl, same_at sm no, by rw [upd_same, map_snoc'], by rw [List.length_append, hl]; rfl, more n rs _ en hl hrow _⟩
      · rintro σ H' ⟨y3, y4, y5, y6, rs, rfl, sm, ho, hl, hrow⟩
        exact ⟨.ref o, rfl, q H' o rs sm no ho ⟨hl, fun i l hli => hrow i l (List.getElem?_eq_some_iff.mp hli).1 hli⟩⟩
end
end K24

set_option maxRecDepth 100000
set_option maxHeartbeats 8000000
namespace K24
section
open PySem PySem.Spec PyProof.Rows L2 PySem.W PySem.Calls
/-! isinstance of a caught error whose own dict stands -/
section
variable {prog : Program} {w : World} {A : Around} {E : Value → Shared → Prop} {s : Shared} {K : Frag} {x D : Addr} {ox : Obj} {od : Option Obj}
theorem find_cls (hc : (clsIn K D).isSome = true) (C : L2.ExcC K D) : findObj K D od "__class__" = some (.bind (.builtin "getset_descriptor.__get__") (.builtin "object.__class__")) := by
  obtain ⟨cd, e⟩ := Option.isSome_iff_exists.mp hc
  unfold findObj
  rw [e, Option.bind_some, C.ha, Option.bind_some]; simp [C.hn, C.ht]
theorem ask_cls {Q : Option Value → Shared → Prop} (C : L2.ExcC K D) (X : K.In s.heap) (I : InstAt s.heap x ox D od) (h : Q (some (.ref D)) { s with toks := s.toks + 1 }) :
    wpAny (model prog w) A (getAttr? (.ref x) "__class__") Q E s := by
  have hf := find_cls (od := od) (by obtain ⟨c0, e0, _⟩ := any_some C.hd; rw [e0]; rfl) C
  obtain ⟨hp, g, dr, tk, os⟩ := s
  have A0 := I.type (M := model prog w); have A1 := looks_findIn (M := model prog w) X C.hg; have A2 := looks_findIn (M := model prog w) X C.hk
  have A3 := looks_find (M := model prog w) X I hf; have A4 : Looks (model prog w) hp (isInstance (.ref x) (.type "BaseException")) true := A0.andThen (looks_subIn X C.hs)
  have b0 : (false && onTheHeap (Value.builtin "BaseException.__getattribute__")) = false := rfl
  have b2 : (Value.builtin "BaseException.__getattribute__" == Value.builtin "object.__getattribute__") = false := by decide +kernel
  have b1 : (onTheHeap (Value.ref D) && Value.builtin "BaseException.__getattribute__" == Value.builtin "object.__getattribute__") = false := by rw [b2]; rfl
  unfold getAttr? getAttrBy? getAttrBy
  refine wpAny_bind (wpAny_mkText (wpAny_bind (wpAny_attempt (wpAny_holding (wpAny_bind (A0.at (wpAny_bind (A1.at ?_))))))))
  show wpAny _ _ (if (onTheHeap (Value.ref D) && Value.builtin "BaseException.__getattribute__" == Value.builtin "object.__getattribute__") = true then _ else _) _ _ _
  rw [b1, if_neg Bool.false_ne_true]; unfold getAttrByItsOwn hookBefore
  refine wpAny_bind ?_; rw [if_pos (show onTheHeap (Value.ref D) = true from rfl)]; refine A2.at ?_
  refine wpAny_bind (wpAny_attempt (wpAny_holding ?_)); unfold callGetattribute; rw [b0, if_neg Bool.false_ne_true]; unfold boundAndCalled
  rw [PySem.F.excAttr_ValueError.ga.bind (.ref x)]; refine wpAny_bind (wpAny_pure ?_)
  show wpAny _ _ (call (.builtin "BaseException.__getattribute__") [.ref x, .str "__class__" tk]) _ _ _
  refine wpAny_call (codeAny_call_builtin PySem.F.excAttr_ValueError.ga.plain PySem.F.entry_bexc_ga ?_)
  refine @check_slot (model prog w) _ _ ⟨hp, g, dr, tk + 1, os⟩ "BaseException.__getattribute__" "BaseException" "__getattribute__" (.ref x) [.str "__class__" tk] [] _ (by decide +kernel) (by decide +kernel) A4 (PySem.F.args_bexc_ga (.ref x) (.str "__class__" tk)) ?_
  unfold Builtin.«object.__getattribute__»; refine wpAny_bind (wpAny_of_eq (a := ((Value.ref x : Value), [Value.str "__class__" tk])) (by first | rfl | (simp only [slotArgs]; rfl)) ?_)
  refine wpAny_bind (wpAny_pure (wpAny_bind (A0.at (wpAny_bind (A3.at ?_)))))
  show wpAny _ _ (holding [Value.builtin "object.__class__"] (call (.builtin "getset_descriptor.__get__") [.builtin "object.__class__", .ref x, .ref D]) >>= ret) _ _ _
  refine wpAny_bind (wpAny_holding (wpAny_call (class_get (s := ⟨hp, g, dr, tk + 1, os⟩) (ox := ox) (od := od) X I C.hm ?_))); refine wpAny_pure ?_
  show wpAny _ _ (handedOut (.ref D)) _ _ _; rw [handedOut_of (v := .ref D) rfl]
  first | exact wpAny_pure (wpAny_pure h) | exact wpAny_pure h | exact wpAny_pure (wpAny_bind (wpAny_pure (wpAny_pure h)))
theorem kit_err (C : L2.ExcC K D) : KitX K (.ref x) (.ref D) (fun h => InstAt h x ox D od) := by
  obtain ⟨cd, hc, _⟩ := any_some C.hd
  refine ⟨fun _ _ _ I => I.type, fun M h X _ => ?_, fun h tp dd its n sl X htp => ?_, fun X I k => ask_cls C X I k⟩
  · unfold clsIn at hc
    split at hc
    · rename_i o1 o2 o3 o4 ho
      intro A' Q' E' s' k q; unfold isType loadHead; exact wpAny_bind (wpAny_loadPart (k _ _ (X _ _ ho)) (wpAny_pure q))
    · cases hc
  · refine Bool.eq_false_iff.mpr fun q => ?_
    have e : D = tp := Value.ref.inj (beq_iff_eq.mp q); subst e
    unfold clsIn at hc
    split at hc
    · rename_i o1 o2 o3 o4 ho
      have z := (X _ _ ho).symm.trans htp; cases z
    · cases hc
end
/-- isinstance(e, c), e the caught error at a, of class D, its own dict at dd -/
def rIsD (K : PySem.W.Frag) (D a : Addr) (cls : Value) (d : Option Addr) : List V → Hp → VK → Prop := fun xs H Q => ∃ (c : V) (cv : Value) (b : Bool) (dd : Addr) (fs : List (Str × V)),
  cls = .ref D ∧ xs = [.ref a, c] ∧ (∀ u, RelV c u → u = cv) ∧ kitOne K (.ref D) cv = some b ∧ d = some dd ∧ H dd = some (.xd fs) ∧ Q (.bl b) H
theorem call_isD {X : Cx} {a D : Addr} {oe : Obj} {cls : Value} {d : Option Addr} {pn : List (Addr × Obj)} (C : ExcC X.K D) (hz : Zc cls d oe) (hf : ∃ vs, oe.data = .fields vs) : CallR (X.suite a ((a, oe) :: pn)) (.builtin "isinstance") (rIsD X.K D a cls d) := by
  intro pins s σ H xs us Q I r h
  obtain ⟨c, cv, b, dd, fs, ecl, rfl, hcv, e, ed, ea, q⟩ := h
  subst ecl
  subst ed
  obtain ⟨u1, u2, rfl, r1, r2⟩ := vals2 r
  obtain rfl : u1 = Value.ref a := r1
  have ec := hcv _ r2; subst ec
  obtain ⟨hget, _⟩ := I.pin (a, oe) (List.mem_append_left _ List.mem_cons_self)
  obtain ⟨vs, hv⟩ := hf
  have hx : ObjOk X.prog X.w H s.heap dd (.xd fs) := I.hok dd _ ea
  obtain ⟨mA, hns, hr⟩ := hx
  obtain ⟨od, ho, hl⟩ := lookIn_ns hns
  have J : InstAt s.heap a oe D (some od) := ⟨hget, hz.1, by unfold PySem.W.notCls; rw [hv] <;> rfl, by rw [hz.2]; exact ho⟩
  exact kia_one (kit_err C) I.kIn J e (fun z => nomatch z) fun tk => ⟨.bl b, H, I.kept (t' := tk) fun _ _ z => z, rfl, q⟩
end
open PySem PySem.Spec PyProof.Rows L2
section
variable {P : Program} {w : World} {K : PySem.W.Frag} {mg : Str → Option Value} {base : Heap} {t1 t2 t3 t4 t5 : Tok}

section
open PySem PySem.Spec PyProof.Rows L2
variable {P : Program} {w : World} {K : PySem.W.Frag} {mg : Str → Option Value} {base : Heap} {t1 : Tok}
/-! ### _law_same -/
theorem ty_txt {H : Hp} {z : Str} : TyX K H (.str z) (.type "str") := .base (.str z)
theorem ty_lst {H : Hp} {a : Addr} {xs : List V} (h : H a = some (.lst xs)) : TyX K H (.ref a) (.type "list") := .base (.lst h)
theorem ty_tup {H : Hp} {a : Addr} {xs : List V} (h : H a = some (.tup xs)) : TyX K H (.ref a) (.type "tuple") := .base (.tup h)
def Leaf (v : V) : Prop := (∃ z, v = .str z) ∨ ∃ i, v = .int i
/-- the same through and through, n deep -/
def SameV : Nat → Hp → V → V → Prop
  | 0, _, x, y => x = y ∧ Leaf x
  | n + 1, H, x, y => (x = y ∧ Leaf x) ∨ ∃ (a b : Addr) (xs ys : List V), x = .ref a ∧ y = .ref b ∧ ((H a = some (.lst xs) ∧ H b = some (.lst ys)) ∨ (H a = some (.tup xs) ∧ H b = some (.tup ys))) ∧ xs.length = ys.length ∧ ys.length ≤ 1000 ∧
      ∀ (i : Nat) u v, xs[i]? = some u → ys[i]? = some v → SameV n H u v
/-- tuples stand -/
def Still : HO → Prop
  | .tup _ => True
  | _ => False
def Kp (H H' : Hp) : Prop := ∀ b o, Still o → H b = some o → H' b = some o
theorem Kp.refl (H : Hp) : Kp H H := fun _ _ _ h => h
theorem Kp.trans {H H1 H2 : Hp} (a : Kp H H1) (b : Kp H1 H2) : Kp H H2 := fun x o n h => b x o n (a x o n h)
theorem Kp.of {H H' : Hp} (s : Same H H') : Kp H H' := fun b o _ h => s b o h
theorem Kp.but {H H' : Hp} {p : Addr} {u : HO} (hp : H p = some u) (nu : ¬ Still u) (s : ∀ b o, b ≠ p → H b = some o → H' b = some o) : Kp H H' := fun b o n h => s b o (fun e => by
  rw [e, hp] at h; cases h; exact nu n) h
theorem Kp.tup {H H' : Hp} (s : Kp H H') {a : Addr} {xs : List V} (h : H a = some (.tup xs)) : H' a = some (.tup xs) := s _ _ True.intro h
theorem upd_but {H : Hp} {p : Addr} {x : HO} : ∀ b o, b ≠ p → H b = some o → upd H p x b = some o := fun b o h e => by rw [upd_ne h]; exact e
/-- tuples of tuples .. of ints -/
def TupV : Nat → Hp → V → Prop
  | 0, _, x => ∃ i : Int, x = .int i
  | n + 1, H, x => (∃ i : Int, x = .int i) ∨ ∃ (a : Addr) (xs : List V), x = .ref a ∧ H a = some (.tup xs) ∧ xs.length ≤ 1000 ∧ ∀ v ∈ xs, TupV n H v
theorem TupV.kp {H H' : Hp} (s : Kp H H') : ∀ {n : Nat} {x : V}, TupV n H x → TupV n H' x
  | 0, _, h => h
  | _ + 1, _, .inl h => .inl h
  | _ + 1, _, .inr ⟨a, xs, h1, h2, h3, h4⟩ => .inr ⟨a, xs, h1, s.tup h2, h3, fun v hv => (h4 v hv).kp s⟩
theorem TupV.same {H : Hp} : ∀ {n : Nat} {x : V}, TupV n H x → SameV n H x x
  | 0, _, h => ⟨rfl, .inr h⟩
  | _ + 1, _, .inl h => .inl ⟨rfl, .inr h⟩
  | _ + 1, _, .inr ⟨a, xs, h1, h2, h3, h4⟩ => .inr ⟨a, a, xs, xs, h1, h1, .inr ⟨h2, h2⟩, rfl, h3, fun i u v hu hv => by
    rw [hu] at hv; cases hv
    exact (h4 u (List.mem_of_getElem? hu)).same⟩
def spSame (n : Nat) : Sp := fun vs H Q _ => ∃ x y, vs = [x, y] ∧ SameV n H x y ∧ Q (.bl true) H
theorem scSame : FnScope ["_law_one", "_law_two", "_law_k"] ["_law_one", "_law_two"] (defScope sSame) := ⟨rfl, rfl, rfl, by decide +kernel, rfl, by decide +kernel, by decide +kernel⟩
theorem ok_same0 {f : Addr} {fd : FuncData} (B : Blt mg) (F : Fun K "_law_same" "_law_same" sSame f fd) : FnOk P w K mg base CX0 1 f fd ["_law_one", "_law_two"] (spSame 0) := by
  refine F.ok scSame (fun vs H Q E h => ?_) (fun cdv A outer s H vs Q E hr h => ?_)
  · obtain ⟨x, y, rfl, _⟩ := h; rfl
  · obtain ⟨x, y, rfl, ⟨rfl, hv⟩, q⟩ := h
    refine ⟨_, (pss_cons (ps_if (pt_val (pe_callB call_isi (by rfl) B.isi (by decide +kernel) (pa_cons (pv 1) (pa_cons (pe_bltn (v := .ty "int") (by rfl) B.int (by decide +kernel) rfl) pa_nil))))
      (pss_one (ps_ret (pe_and (pe_callB call_isi (by rfl) B.isi (by decide +kernel) (pa_cons (pv 0) (pa_cons (pe_bltn (v := .ty "int") (by rfl) B.int (by decide +kernel) rfl) pa_nil))) (pe_and (pe_not (pe_callB call_isi (by rfl) B.isi (by decide +kernel) (pa_cons (pv 0) (pa_cons (pe_bltn (v := .ty "bool") (by rfl) B.bool (by decide +kernel) rfl) pa_nil)))) (pe_one (pe_cmpR op_eq (pv 0) (pv 1) (nomark _)))))))
      pss_nil)
      (pss_cons (ps_if (pt_val (pe_callB call_isi (by rfl) B.isi (by decide +kernel) (pa_cons (pv 1) (pa_cons (pe_bltn (v := .ty "str") (by rfl) B.str (by decide +kernel) rfl) pa_nil))))
      (pss_one (ps_ret (pe_and (pe_callB call_isi (by rfl) B.isi (by decide +kernel) (pa_cons (pv 0) (pa_cons (pe_bltn (v := .ty "str") (by rfl) B.str (by decide +kernel) rfl) pa_nil))) (pe_one (pe_cmpR op_eq (pv 0) (pv 1) (nomark _))))))
      pss_nil)
      (pss_cons ps_never (pss_cons ps_never (pss_cons ps_never (pss_cons ps_never (pss_one ps_never))))))), ?_⟩
    rcases hv with ⟨z, rfl⟩ | ⟨i, rfl⟩
    · refine ⟨.str z, rfl, .str z, .ty "int", .type "str", .type "int", false, rfl, .ty "int", ty_txt, kit_ty (by decide +kernel), _, rfl, iteF ?_⟩
      refine ⟨.str z, rfl, .str z, .ty "str", .type "str", .type "str", true, rfl, .ty "str", ty_txt, kit_ty (by decide +kernel), _, rfl, iteT ?_⟩
      refine ⟨.str z, rfl, .str z, .ty "str", .type "str", .type "str", true, rfl, .ty "str", ty_txt, kit_ty (by decide +kernel), _, rfl, iteT ?_⟩
      refine ⟨.str z, rfl, .str z, rfl, rfl, ?_⟩
      rw [decide_eq_true rfl]; exact q
    · refine ⟨.int i, rfl, .int i, .ty "int", .type "int", .type "int", true, rfl, .ty "int", .base (.int i), kit_ty (by decide +kernel), _, rfl, iteT ?_⟩
      refine ⟨.int i, rfl, .int i, .ty "int", .type "int", .type "int", true, rfl, .ty "int", .base (.int i), kit_ty (by decide +kernel), _, rfl, iteT ?_⟩
      refine ⟨.int i, rfl, .int i, .ty "bool", .type "int", .type "bool", false, rfl, .ty "bool", .base (.int i), kit_ty (by decide +kernel), _, rfl, _, rfl, iteT ?_⟩
      refine ⟨.int i, rfl, .int i, rfl, rfl, ?_⟩
      rw [decide_eq_true rfl]; exact q
theorem ok_same1 {n : Nat} {f_same : Addr} {fd_same : FuncData} (B : Blt mg) (F_same : Fun K "_law_same" "_law_same" sSame f_same fd_same) (b_same : Binds K fd_same ["_law_one", "_law_two"] []) (g_same : mg "_law_same" = some (.ref f_same))
    (G_same : FnOk P w K mg base CX0 (n + 1) f_same fd_same ["_law_one", "_law_two"] (spSame n)) : FnOk P w K mg base CX0 (n + 2) f_same fd_same ["_law_one", "_law_two"] (spSame (n + 1)) := by
  refine F_same.ok scSame (fun vs H Q E h => ?_) (fun cdv A outer s H vs Q E hr h => ?_)
  · obtain ⟨x, y, rfl, _⟩ := h; rfl
  · obtain ⟨x, y, rfl, hv, q⟩ := h
    refine ⟨_, (pss_cons (ps_if (pt_val (pe_callB call_isi (by rfl) B.isi (by decide +kernel) (pa_cons (pv 1) (pa_cons (pe_bltn (v := .ty "int") (by rfl) B.int (by decide +kernel) rfl) pa_nil))))
      (pss_one (ps_ret (pe_and (pe_callB call_isi (by rfl) B.isi (by decide +kernel) (pa_cons (pv 0) (pa_cons (pe_bltn (v := .ty "int") (by rfl) B.int (by decide +kernel) rfl) pa_nil))) (pe_and (pe_not (pe_callB call_isi (by rfl) B.isi (by decide +kernel) (pa_cons (pv 0) (pa_cons (pe_bltn (v := .ty "bool") (by rfl) B.bool (by decide +kernel) rfl) pa_nil)))) (pe_one (pe_cmpR op_eq (pv 0) (pv 1) (nomark _)))))))
      pss_nil)
      (pss_cons (ps_if (pt_val (pe_callB call_isi (by rfl) B.isi (by decide +kernel) (pa_cons (pv 1) (pa_cons (pe_bltn (v := .ty "str") (by rfl) B.str (by decide +kernel) rfl) pa_nil))))
      (pss_one (ps_ret (pe_and (pe_callB call_isi (by rfl) B.isi (by decide +kernel) (pa_cons (pv 0) (pa_cons (pe_bltn (v := .ty "str") (by rfl) B.str (by decide +kernel) rfl) pa_nil))) (pe_one (pe_cmpR op_eq (pv 0) (pv 1) (nomark _))))))
      pss_nil)
      (pss_cons (ps_if (PW.pt (pw_and (pt_val (pe_callB call_isi (by rfl) B.isi (by decide +kernel) (pa_cons (pv 1) (pa_cons (pe_bltn (v := .ty "tuple") (by rfl) B.tuple (by decide +kernel) rfl) pa_nil)))) (pw_and1 (pt_not (pt_val (pe_callB call_isi (by rfl) B.isi (by decide +kernel) (pa_cons (pv 0) (pa_cons (pe_bltn (v := .ty "tuple") (by rfl) B.tuple (by decide +kernel) rfl) pa_nil)))))))) (pss_one ps_never) pss_nil)
      (pss_cons (ps_if (PW.pt (pw_and (pt_val (pe_callB call_isi (by rfl) B.isi (by decide +kernel) (pa_cons (pv 1) (pa_cons (pe_bltn (v := .ty "list") (by rfl) B.list (by decide +kernel) rfl) pa_nil)))) (pw_and1 (pt_not (pt_val (pe_callB call_isi (by rfl) B.isi (by decide +kernel) (pa_cons (pv 0) (pa_cons (pe_bltn (v := .ty "list") (by rfl) B.list (by decide +kernel) rfl) pa_nil)))))))) (pss_one ps_never) pss_nil)
      (pss_cons (ps_if (pt_cmpR op_ne (pe_callB call_len (by rfl) B.len PySem.boot_len (pa_cons (pv 0) pa_nil)) (pe_callB call_len (by rfl) B.len PySem.boot_len (pa_cons (pv 1) pa_nil)) (nomark _)) (pss_one (ps_ret pe_bl)) pss_nil)
      (pss_cons (ps_for (PassesOwn.never) rfl (pi_range1 (by rfl) B.range (pa_cons (pe_callB call_len (by rfl) B.len PySem.boot_len (pa_cons (pv 1) pa_nil)) pa_nil)) (pg_name (i := 2) scSame.nd rfl (.inl rfl))
        (pss_one (ps_if (pt_not (pt_val (pe_call G_same hr (by rfl) g_same F_same.kp b_same .nil pass0 (pa_cons (pe_ix (ix_list.or ix_tup) (pv 0) (pv 2) (fun _ _ => rfl)) (pa_cons (pe_ix (ix_list.or ix_tup) (pv 1) (pv 2) (fun _ _ => rfl)) pa_nil)))))
         (pss_one (ps_ret pe_bl))
         pss_nil)))
       (pss_one (ps_ret pe_bl)))))))), ?_⟩
    rcases hv with ⟨rfl, hv⟩ | ⟨a, b, xs, ys, rfl, rfl, ⟨ha, hb⟩ | ⟨ha, hb⟩, hle, hx, hall⟩
    · rcases hv with ⟨z, rfl⟩ | ⟨i, rfl⟩
      · refine ⟨.str z, rfl, .str z, .ty "int", .type "str", .type "int", false, rfl, .ty "int", ty_txt, kit_ty (by decide +kernel), _, rfl, iteF ?_⟩
        refine ⟨.str z, rfl, .str z, .ty "str", .type "str", .type "str", true, rfl, .ty "str", ty_txt, kit_ty (by decide +kernel), _, rfl, iteT ?_⟩
        refine ⟨.str z, rfl, .str z, .ty "str", .type "str", .type "str", true, rfl, .ty "str", ty_txt, kit_ty (by decide +kernel), _, rfl, iteT ?_⟩
        refine ⟨.str z, rfl, .str z, rfl, rfl, ?_⟩
        rw [decide_eq_true rfl]; exact q
      · refine ⟨.int i, rfl, .int i, .ty "int", .type "int", .type "int", true, rfl, .ty "int", .base (.int i), kit_ty (by decide +kernel), _, rfl, iteT ?_⟩
        refine ⟨.int i, rfl, .int i, .ty "int", .type "int", .type "int", true, rfl, .ty "int", .base (.int i), kit_ty (by decide +kernel), _, rfl, iteT ?_⟩
        refine ⟨.int i, rfl, .int i, .ty "bool", .type "int", .type "bool", false, rfl, .ty "bool", .base (.int i), kit_ty (by decide +kernel), _, rfl, _, rfl, iteT ?_⟩
        refine ⟨.int i, rfl, .int i, rfl, rfl, ?_⟩
        rw [decide_eq_true rfl]; exact q
    · refine ⟨.ref b, rfl, .ref b, .ty "int", .type "list", .type "int", false, rfl, .ty "int", ty_lst hb, kit_ty (by decide +kernel), _, rfl, iteF ?_⟩
      refine ⟨.ref b, rfl, .ref b, .ty "str", .type "list", .type "str", false, rfl, .ty "str", ty_lst hb, kit_ty (by decide +kernel), _, rfl, iteF ?_⟩
      refine ⟨.ref b, rfl, .ref b, .ty "tuple", .type "list", .type "tuple", false, rfl, .ty "tuple", ty_lst hb, kit_ty (by decide +kernel), _, rfl, iteF ?_⟩
      refine ⟨.ref b, rfl, .ref b, .ty "list", .type "list", .type "list", true, rfl, .ty "list", ty_lst hb, kit_ty (by decide +kernel), _, rfl, iteT ?_⟩
      refine ⟨.ref a, rfl, .ref a, .ty "list", .type "list", .type "list", true, rfl, .ty "list", ty_lst ha, kit_ty (by decide +kernel), _, rfl, iteF ?_⟩
      refine ⟨.ref a, rfl, .ref a, xs.length, rfl, .inl ⟨_, SqL.of ha, rfl⟩, .ref b, rfl, .ref b, ys.length, rfl, .inl ⟨_, SqL.of hb, rfl⟩, rfl, _, rfl, ?_⟩
      rw [hle, decide_eq_true rfl]
      refine iteF ⟨.ref b, rfl, .ref b, ys.length, rfl, .inl ⟨_, SqL.of hb, rfl⟩, (ys.length : Int), rfl, by omega, by omega, ?_⟩
      rw [Int.toNat_natCast]
      refine for_range (lo := 0) (n := ys.length) (fun n σ H' => ∃ y, σ = [some (.ref a), some (.ref b), y] ∧ H' = H) ⟨none, rfl, rfl⟩ ?_ ?_
      · rintro k σ H' hk ⟨y, rfl, rfl⟩
        have e0 : (0 : Int) + (k : Int) = (k : Int) := by omega
        rw [e0]
        have g1 : xs[k]? = some (xs[k]'(by omega)) := by simp
        have g2 : ys[k]? = some (ys[k]'hk) := by simp
        refine ⟨.ref a, rfl, .int (k : Int), rfl, .inl ⟨a, xs, (k : Int), _, rfl, rfl, SqL.of ha, atI_nat g1, .ref b, rfl, .int (k : Int), rfl, .inl ⟨b, ys, (k : Int), _, rfl, rfl, SqL.of hb, atI_nat g2, ?_⟩⟩⟩
        exact ⟨_, _, rfl, hall k _ _ g1 g2, true, rfl, iteF ⟨_, rfl, rfl⟩⟩
      · rintro σ H' ⟨y, rfl, rfl⟩
        exact q
    · refine ⟨.ref b, rfl, .ref b, .ty "int", .type "tuple", .type "int", false, rfl, .ty "int", ty_tup hb, kit_ty (by decide +kernel), _, rfl, iteF ?_⟩
      refine ⟨.ref b, rfl, .ref b, .ty "str", .type "tuple", .type "str", false, rfl, .ty "str", ty_tup hb, kit_ty (by decide +kernel), _, rfl, iteF ?_⟩
      refine ⟨.ref b, rfl, .ref b, .ty "tuple", .type "tuple", .type "tuple", true, rfl, .ty "tuple", ty_tup hb, kit_ty (by decide +kernel), _, rfl, iteT ?_⟩
      refine ⟨.ref a, rfl, .ref a, .ty "tuple", .type "tuple", .type "tuple", true, rfl, .ty "tuple", ty_tup ha, kit_ty (by decide +kernel), _, rfl, iteF ?_⟩
      refine ⟨.ref b, rfl, .ref b, .ty "list", .type "tuple", .type "list", false, rfl, .ty "list", ty_tup hb, kit_ty (by decide +kernel), _, rfl, iteF ?_⟩
      refine ⟨.ref a, rfl, .ref a, xs.length, rfl, .inr ⟨_, SqT.of ha, rfl⟩, .ref b, rfl, .ref b, ys.length, rfl, .inr ⟨_, SqT.of hb, rfl⟩, rfl, _, rfl, ?_⟩
      rw [hle, decide_eq_true rfl]
      refine iteF ⟨.ref b, rfl, .ref b, ys.length, rfl, .inr ⟨_, SqT.of hb, rfl⟩, (ys.length : Int), rfl, by omega, by omega, ?_⟩
      rw [Int.toNat_natCast]
      refine for_range (lo := 0) (n := ys.length) (fun n σ H' => ∃ y, σ = [some (.ref a), some (.ref b), y] ∧ H' = H) ⟨none, rfl, rfl⟩ ?_ ?_
      · rintro k σ H' hk ⟨y, rfl, rfl⟩
        have e0 : (0 : Int) + (k : Int) = (k : Int) := by omega
        rw [e0]
        have g1 : xs[k]? = some (xs[k]'(by omega)) := by simp
        have g2 : ys[k]? = some (ys[k]'hk) := by simp
        refine ⟨.ref a, rfl, .int (k : Int), rfl, .inr ⟨a, xs, (k : Int), _, rfl, rfl, SqT.of ha, atI_nat g1, .ref b, rfl, .int (k : Int), rfl, .inr ⟨b, ys, (k : Int), _, rfl, rfl, SqT.of hb, atI_nat g2, ?_⟩⟩⟩
        exact ⟨_, _, rfl, hall k _ _ g1 g2, true, rfl, iteF ⟨_, rfl, rfl⟩⟩
      · rintro σ H' ⟨y, rfl, rfl⟩
        exact q
theorem ok_same {f_same : Addr} {fd_same : FuncData} (B : Blt mg) (F_same : Fun K "_law_same" "_law_same" sSame f_same fd_same) (b_same : Binds K fd_same ["_law_one", "_law_two"] []) (g_same : mg "_law_same" = some (.ref f_same)) :
    ∀ n, FnOk P w K mg base CX0 (n + 1) f_same fd_same ["_law_one", "_law_two"] (spSame n)
  | 0 => ok_same0 B F_same
  | n + 1 => ok_same1 B F_same b_same g_same (ok_same B F_same b_same g_same n)
/-! ### BadFace -/
def spEI (K : PySem.W.Frag) (C : Addr) (fld : Str) : Sp := fun vs H Q _ => ∃ (a : Addr) (v : V), vs = [.ref a, v] ∧ H a = some (exo a C none) ∧ OexC K C ∧ PySem.W.findIn K (.ref C) fld = some none ∧
  ∀ d, H d = none → d ≠ a → Q .non (upd (upd H d (exd d [(fld, v)])) a (exo a C (some d)))
theorem heap_err {H : Hp} {a d C : Addr} {v : V} {fld : Str} (ha : H a = none) (hd : H d = none) (hne : d ≠ a) :
    upd (del (upd (upd (upd H a (exo a C none)) d (exd d [(fld, v)])) a (exo a C (some d))) a) d (.xd [(fld, v)]) = upd H d (.xd [(fld, v)]) := by
  funext b
  by_cases h1 : b = d
  · subst h1; rw [upd_same, upd_same]
  · rw [upd_ne h1, upd_ne h1]
    by_cases h2 : b = a
    · subst h2; rw [del_same, ha]
    · rw [del_ne h2, upd_ne h2, upd_ne h1, upd_ne h2]
theorem raise_err {C : Addr} {v : V} {H : Hp} {Q : XK} {fld : Str} (o : OexC K C) (fp : PySem.W.findIn K (.ref C) fld = some none) (q : ∀ d, H d = none → Q (.ref C) (some d) (upd H d (.xd [(fld, v)]))) :
    [v].length ≤ 1000 ∧ ∀ a, H a = none → spEI K C fld (.ref a :: ([v] ++ [])) (upd H a (exo a C none))
      (fun u H2 => u = .non ∧ ∃ (d : Addr) (fs : List (Str × V)), H2 a = some (exo a C (some d)) ∧ H2 d = some (exd d fs) ∧ H d = none ∧ Q (.ref C) (some d) (upd (del H2 a) d (.xd fs))) (fun _ _ _ => False) := by
  refine ⟨by show 1 ≤ 1000; decide, fun a ha => ⟨a, v, rfl, upd_same, o, fp, fun d h1 hne => ⟨rfl, d, [(fld, v)], upd_same, ?_, ?_, ?_⟩⟩⟩
  · rw [upd_ne hne, upd_same]
  · rw [upd_ne hne] at h1; exact h1
  · rw [upd_ne hne] at h1
    rw [heap_err ha h1 hne]; exact q d h1

theorem scBadFI : FnScope ["self", "sign"] ["self", "sign"] (defScope sBFInit) := ⟨rfl, rfl, rfl, by decide +kernel, rfl, by decide +kernel, by decide +kernel⟩
structure BadF (K : PySem.W.Frag) (mg : Str → Option Value) (C fI : Addr) (fd : FuncData) : Prop where
  gC : mg "BadFace" = some (.ref C)
  oex : OexC K C
  fp : PySem.W.findIn K (.ref C) "sign" = some none
  iC : PySem.W.findIn K (.ref C) "__init__" = some (some (.ref fI))
  tI : PySem.W.typeIn K (.ref fI) = some (.type "function")
  F : Fun K "__init__" "BadFace.__init__" sBFInit fI fd
  b : Binds K fd ["self", "sign"] []
def spBadFI (K : PySem.W.Frag) (C : Addr) : Sp := spEI K C "sign"
theorem ok_BadFI {f C : Addr} {fd : FuncData} (F : Fun K "__init__" "BadFace.__init__" sBFInit f fd) : FnOk P w K mg base CX0 1 f fd ["self", "sign"] (spBadFI K C) := by
  refine F.ok scBadFI (fun vs H Q E h => ?_) (fun cdv A outer s H vs Q E hr h => ?_)
  · obtain ⟨a, v, rfl, _⟩ := h; rfl
  · obtain ⟨a, v, rfl, ha, o, fp, q⟩ := h
    refine ⟨_, pss_one (ps_ost (pv 0) (pv 1)), ?_⟩
    exact ⟨_, rfl, _, rfl, a, C, rfl, o, fp, .inl ⟨ha, fun dx h1 h2 => q dx h1 h2⟩⟩

end
end
end K24

set_option maxRecDepth 100000
set_option maxHeartbeats 8000000
namespace K24
open PySem PySem.Spec PyProof.Rows L2
/-! ### rows of a face -/
/-- a row: its tuple's address, its sign, its advance, its outline's address -/
structure Rw where
  t : Addr
  c : Nat
  n : Int
  o : Addr
abbrev cs (rs : List Rw) : List Nat := rs.map (·.c)
abbrev sg (c : Nat) : Str := ⟨#[c]⟩
def rv (rs : List Rw) : List V := rs.map fun r => V.ref r.t
def OutV (H : Hp) (o : Addr) : Prop := TupV 3 H (.ref o)
def RowT (H : Hp) (r : Rw) : Prop := H r.t = some (.tup [.str (sg r.c), .int r.n, .ref r.o]) ∧ OutV H r.o ∧ 0 ≤ r.n ∧ r.n ≤ 1000
theorem RowT.kp {H H' : Hp} {r : Rw} (h : RowT H r) (s : Kp H H') : RowT H' r := ⟨s.tup h.1, TupV.kp s h.2.1, h.2.2⟩
theorem rv_at {rs : List Rw} {i : Nat} {r : Rw} (h : rs[i]? = some r) : (rv rs)[i]? = some (.ref r.t) := by unfold rv; rw [List.getElem?_map, h]; rfl
theorem rv_len (rs : List Rw) : (rv rs).length = rs.length := by unfold rv; rw [List.length_map]
/-- rows in a list at a -/
def RowsAt (H : Hp) (a : Addr) (rs : List Rw) : Prop := H a = some (.lst (rv rs)) ∧ ∀ r ∈ rs, RowT H r
theorem RowsAt.same {H H' : Hp} {a : Addr} {rs : List Rw} (h : RowsAt H a rs) (s : Same H H') : RowsAt H' a rs := ⟨s _ _ h.1, fun r hr => (h.2 r hr).kp (.of s)⟩
/-- the first sign that is a space or has been -/
def badFrom : List Nat → List Nat → Option Nat
  | _, [] => none
  | seen, c :: l => if c = 32 ∨ c ∈ seen then some c else badFrom (seen ++ [c]) l
theorem badFrom_at {l : List Nat} {i c : Nat} (h : l[i]? = some c) : badFrom (l.take i) (l.drop i) = if c = 32 ∨ c ∈ l.take i then some c else badFrom (l.take (i + 1)) (l.drop (i + 1)) := by
  obtain ⟨hl, e⟩ := List.getElem?_eq_some_iff.mp h
  rw [List.drop_eq_getElem_cons hl, e]
  have e2 : l.take (i + 1) = l.take i ++ [c] := by rw [List.take_add_one, h]; rfl
  rw [e2]; rfl
def badOf (rs : List Rw) : Option Nat := badFrom [] (cs rs)
/-! ### what a face holds -/
abbrev Ent := Rw × Addr
def kvE (es : List Ent) : List (Key × V) := es.map fun e => ((Sum.inr (sg e.1.c) : Key), V.ref e.2)
def EntOk (H : Hp) (e : Ent) : Prop := H e.2 = some (.tup [.int e.1.n, .ref e.1.o]) ∧ OutV H e.1.o ∧ 0 ≤ e.1.n ∧ e.1.n ≤ 1000
theorem EntOk.kp {H H' : Hp} {e : Ent} (h : EntOk H e) (s : Kp H H') : EntOk H' e := ⟨s.tup h.1, TupV.kp s h.2.1, h.2.2⟩
theorem kvE_len (es : List Ent) : (kvE es).length = es.length := by unfold kvE; rw [List.length_map]
theorem sg_inj {a b : Nat} : ((Sum.inr (sg a) : Key) = Sum.inr (sg b)) ↔ a = b := by
  constructor
  · intro h
    injection h with h
    have := congrArg tl h
    simpa [tl] using this
  · intro h; rw [h]
theorem valE (c : Nat) : ∀ es : List Ent, valV (kvE es) (Sum.inr (sg c)) = (es.find? fun e => decide (e.1.c = c)).map fun e => V.ref e.2
  | [] => rfl
  | e :: es => by
    show valV (((Sum.inr (sg e.1.c) : Key), V.ref e.2) :: kvE es) _ = _
    by_cases h : e.1.c = c
    · rw [valV_pos (sg_inj.mpr h), List.find?_cons, decide_eq_true h]; rfl
    · rw [valV_neg (fun z => h (sg_inj.mp z)), List.find?_cons, decide_eq_false h]; exact valE c es
theorem valE_some (c : Nat) (es : List Ent) : (valV (kvE es) (Sum.inr (sg c))).isSome = decide (c ∈ cs (es.map (·.1))) := by
  rw [valE, Option.isSome_map]
  induction es with
  | nil => rfl
  | cons e es ih =>
    rw [List.find?_cons]
    by_cases h : e.1.c = c
    · rw [decide_eq_true h]
      symm; refine decide_eq_true ?_
      simp [cs, h]
    · rw [decide_eq_false h]
      show (es.find? _).isSome = _
      rw [ih]
      refine decide_eq_decide.mpr ⟨fun m => List.mem_cons_of_mem _ m, fun m => ?_⟩
      rcases List.mem_cons.mp m with q | q
      · exact absurd q.symm h
      · exact q
theorem find_ent (c : Nat) (es : List Ent) : (es.map (·.1)).find? (fun r => decide (r.c = c)) = (es.find? fun e => decide (e.1.c = c)).map (·.1) := by
  rw [List.find?_map]; rfl
def rowOf (rs : List Rw) (c : Nat) : Option Rw := rs.find? fun r => decide (r.c = c)
def advOf (b : Int) (rs : List Rw) (c : Nat) : Int := if c = 32 then b else match rowOf rs c with
  | none => 1
  | some r => r.n
theorem rowOf_none {rs : List Rw} {c : Nat} : rowOf rs c = none ↔ c ∉ cs rs := by
  unfold rowOf
  rw [List.find?_eq_none]
  constructor
  · intro h m
    obtain ⟨r, hr, e⟩ := List.mem_map.mp m
    exact h r hr (decide_eq_true e)
  · intro h r hr e
    exact h (List.mem_map.mpr ⟨r, hr, of_decide_eq_true e⟩)
theorem rowOf_mem {rs : List Rw} {c : Nat} {r : Rw} (h : rowOf rs c = some r) : r ∈ rs ∧ r.c = c := ⟨List.mem_of_find?_eq_some h, of_decide_eq_true (List.find?_some (p := fun r : Rw => decide (r.c = c)) h)⟩
/-- a Face at p -/
def FA (C : Addr) (H : Hp) (p : Addr) (nm : Str) (h b : Int) (rs : List Rw) : Prop := ∃ (dx d : Addr) (fs : List (Str × V)) (es : List Ent), H p = some (.ins C dx fs) ∧ fs.lookup ("name" : Str) = some (.str nm) ∧ fs.lookup ("height" : Str) = some (.int h) ∧
  fs.lookup ("blank" : Str) = some (.int b) ∧ fs.lookup ("_rows" : Str) = some (.ref d) ∧ H d = some (.dK (kvE es)) ∧ es.map (·.1) = rs ∧ (∀ e ∈ es, EntOk H e) ∧ fs.lookup ("advance" : Str) = none ∧ fs.lookup ("outline" : Str) = none
theorem FA.same {C : Addr} {H H' : Hp} {p : Addr} {nm : Str} {h b : Int} {rs : List Rw} (f : FA C H p nm h b rs) (s : Same H H') : FA C H' p nm h b rs :=
  let ⟨dx, d, fs, es, h1, h2, h3, h4, h5, h6, h7, h8, h9⟩ := f; ⟨dx, d, fs, es, s _ _ h1, h2, h3, h4, h5, s _ _ h6, h7, (fun e he => (h8 e he).kp (.of s)), h9⟩
/-- the class -/
structure Fce (K : PySem.W.Frag) (mg : Str → Option Value) (C : Addr) : Prop where
  cl : Cls K C
  n1 : NoAttr K C "name"
  n2 : NoAttr K C "height"
  n3 : NoAttr K C "blank"
  n4 : NoAttr K C "_rows"
  mgC : mg "Face" = some (.ref C)
section
variable {P : Program} {w : World} {K : PySem.W.Frag} {mg : Str → Option Value} {base : Heap} {t1 : Tok}
theorem eSp : Str.ofString " " = sg 32 := by decide +kernel
/-! ### Face.__init__ -/
def spInit (C CB : Addr) : Sp := fun vs H Q E => ∃ (p dx a : Addr) (nm : Str) (h b : Int) (rs : List Rw), vs = [.ref p, .str nm, .int h, .int b, .ref a] ∧ H p = some (.ins C dx []) ∧ RowsAt H a rs ∧ rs.length ≤ 100 ∧
  (∀ c, badOf rs = some c → ∀ H1 d, (∀ b o, b ≠ p → H b = some o → H1 b = some o) → H1 d = none → E (.ref CB) (some d) (upd H1 d (.xd [("sign", .str (sg c))]))) ∧
  (badOf rs = none → ∀ H', (∀ b o, b ≠ p → H b = some o → H' b = some o) → FA C H' p nm h b rs → Q .non H')
abbrev nIn : List Str := ["self", "name", "height", "blank", "rows", "told", "sign", "advance", "outline"]
abbrev pIn : List Str := ["self", "name", "height", "blank", "rows"]
theorem scInit : FnScope nIn pIn (defScope sInit) := ⟨rfl, rfl, rfl, by decide +kernel, rfl, by decide +kernel, by decide +kernel⟩
theorem ok_finit {C CB fI f : Addr} {fdI fd : FuncData} (Z : Cst mg t1) (T : Fce K mg C) (N : BadF K mg CB fI fdI) (F : Fun K "__init__" "Face.__init__" sInit f fd) :
    FnOk P w K mg base (L2N.CX P w) 3 f fd pIn (spInit C CB) := by
  have GI : FnOk P w K mg base CX0 1 fI fdI ["self", "sign"] (spEI K CB "sign") := ok_BadFI N.F
  refine RN.okXN F scInit (fun vs H Q E h => ?_) (fun cdv A0 outer s H vs Q E hr h => ?_)
  · obtain ⟨p, dx, a, nm, h, b, rs, rfl, _⟩ := h; rfl
  · obtain ⟨p, dx, a, nm, h, b, rs, rfl, hp, ⟨ha, hrs⟩, hl, qe, q⟩ := h
    have hr2 : Room 2 _ := hr
    refine ⟨_, (pss_cons (ps_set (i := 5) scInit.nd rfl (.inl rfl) pe_dnewK)
      (pss_cons (ps_for (passes_of rfl) rfl (pi_list (pv 4)) (pg_tup rfl (pgs_cons (pg_name (i := 6) scInit.nd rfl (.inl rfl)) (pgs_cons (pg_name (i := 7) scInit.nd rfl (.inl rfl)) (pgs_cons (pg_name (i := 8) scInit.nd rfl (.inl rfl)) pgs_nil))))
      (pss_cons (ps_if (PW.pt (pw_or (pt_cmpR op_eq (pv 6) (pe_glob (v := .str (Str.ofString " ")) (by rfl) Z ⟨_, rfl⟩) (nomark _)) (pw_or1 (pt_cmp (pc_din (hu_of hr) (pv 6) (pv 5))))))
       (pss_one (L2N.ps_raise rfl (L2N.takes_of rfl rfl rfl rfl) (RN.pmk_oexN N.oex N.iC N.tI GI hr2 N.b .nil pass0 (by rfl) N.gC (pa_cons (pv 6) pa_nil))))
       pss_nil)
       (pss_one (ps_dput (hu_of hr) (pv 5) (pv 6) (pe_tup (pa_cons (pv 7) (pa_cons (pv 8) pa_nil))) rfl))))
      (pss_cons (ps_fld (pv 0) (pv 1) rfl)
      (pss_cons (ps_fld (pv 0) (pv 2) rfl)
      (pss_cons (ps_fld (pv 0) (pv 3) rfl)
      (pss_one (ps_fld (pv 0) (pv 5) rfl))))))), ?_⟩
    refine fun d nd => ?_
    have npd : p ≠ d := ne_of_none hp nd
    have npa : a ≠ p := ne_of ha hp (by intro z; cases z)
    have s1 : Same H (upd H d (.dK [])) := same_new nd
    have hd1 : (upd H d (.dK [])) d = some (.dK (kvE [])) := upd_same
    generalize upd H d (.dK []) = H1 at s1 hd1 ⊢
    refine ⟨.ref a, rfl, a, rfl, ⟨_, SqL.of (s1 _ _ ha)⟩, for_list (K := K) (a := a) (xs := rv rs) (fun i σ H' => ∃ (y6 y7 y8 : Option V) (es : List Ent), σ = [some (.ref p), some (.str nm), some (.int h), some (.int b), some (.ref a), some (.ref d), y6, y7, y8] ∧ Same H H' ∧ H' d = some (.dK (kvE es)) ∧
      es.map (·.1) = rs.take i ∧ (∀ e ∈ es, EntOk H' e) ∧ badOf rs = badFrom ((cs rs).take i) ((cs rs).drop i)) ⟨none, none, none, [], rfl, s1, hd1, rfl, (fun e he => nomatch he), rfl⟩ (fun i σ H' _ ⟨_, _, _, _, _, sm, _⟩ => SqL.of (sm _ _ ha)) ?_ ?_⟩
    · rintro i x σ H' hi ⟨y6, y7, y8, es, rfl, sm, hd, hes, hok, hbad⟩
      unfold rv at hi
      rw [List.getElem?_map] at hi
      cases en : rs[i]? with
      | none => rw [en] at hi; cases hi
      | some r =>
      rw [en] at hi; cases hi
      have hilt := (List.getElem?_eq_some_iff.mp en).1
      have hrT : RowT H' r := (hrs r (List.mem_of_getElem? en)).kp (.of sm)
      have hcat : (cs rs)[i]? = some r.c := by unfold cs; rw [List.getElem?_map, en]; rfl
      rw [badFrom_at hcat] at hbad
      have hmem : (cs rs).take i = cs (es.map (·.1)) := by rw [hes]; unfold cs; rw [List.map_take]
      refine ⟨r.t, _, rfl, SqT.of hrT.1, rfl, _, _, rfl, _, _, rfl, _, _, rfl, rfl, ?_⟩
      refine ⟨.str (sg r.c), rfl, rfl, _, rfl, ?_⟩
      rw [eSp, eqS]
      have kp1 : ∀ b o, b ≠ p → H b = some o → H' b = some o := fun b o _ e => sm _ _ e
      have bad : (r.c = 32 ∨ r.c ∈ (cs rs).take i) → badOf rs = some r.c := fun hb => by
        rw [if_pos hb] at hbad; exact hbad
      refine ite2 (fun h1 => ⟨.str (sg r.c), rfl, raise_err N.oex N.fp fun d2 hd2 => qe r.c (bad (.inl (of_decide_eq_true h1))) H' d2 kp1 hd2⟩) (fun h1 => ?_)
      refine ⟨.str (sg r.c), rfl, .ref d, rfl, d, _, rfl, DGet.k (k := Sum.inr (sg r.c)) hd, _, rfl, ?_⟩
      rw [valE_some, ← hmem]
      refine ite2 (fun h2 => ⟨.str (sg r.c), rfl, raise_err N.oex N.fp fun d2 hd2 => qe r.c (bad (.inr (of_decide_eq_true h2))) H' d2 kp1 hd2⟩) (fun h2 => ?_)
      have hno : ¬ (r.c = 32 ∨ r.c ∈ (cs rs).take i) := fun z => z.elim (fun z => h1 (decide_eq_true z)) fun z => h2 (decide_eq_true z)
      rw [if_neg hno] at hbad
      have hvn : valV (kvE es) (Sum.inr (sg r.c)) = none := by
        have := valE_some r.c es
        rw [← hmem, decide_eq_false (fun z => hno (.inr z))] at this
        exact Option.not_isSome_iff_eq_none.mp (by rw [this]; exact Bool.false_ne_true)
      refine ⟨_, rfl, _, rfl, by show 2 ≤ sizeLine; decide, fun T nT => ?_⟩
      have sT := same_new nT (o := .tup [.int r.n, .ref r.o])
      have hel : es.length = i := by have := congrArg List.length hes; rw [List.length_map, List.length_take] at this; omega
      refine ⟨.ref d, rfl, .str (sg r.c), rfl, d, _, rfl, DPut.k (k := Sum.inr (sg r.c)) (sT _ _ hd) (by rw [kvE_len]; exact small1000 (by omega)), ?_⟩
      rw [putK_new _ hvn]
      have ndT : d ≠ T := ne_of_none hd nT
      have kd : Kp H' (upd (upd H' T (.tup [.int r.n, .ref r.o])) d (.dK (kvE es ++ [((Sum.inr (sg r.c) : Key), V.ref T)]))) := (Kp.of sT).trans (Kp.but (sT _ _ hd) (fun z => z) upd_but)
      have hT : upd (upd H' T (.tup [.int r.n, .ref r.o])) d (.dK (kvE es ++ [((Sum.inr (sg r.c) : Key), V.ref T)])) T = some (.tup [.int r.n, .ref r.o]) := by rw [upd_ne (Ne.symm ndT), upd_same]
      refine ⟨_, _, _, es ++ [(r, T)], rfl, same_at (sm.trans sT) nd, ?_, ?_, ?_, hbad⟩
      · rw [upd_same]; unfold kvE; rw [List.map_append]; rfl
      · rw [List.map_append, hes, List.take_add_one, en]; rfl
      · intro e he
        rcases List.mem_append.mp he with he | he
        · exact (hok e he).kp kd
        · rw [List.mem_singleton.mp he]
          exact ⟨hT, TupV.kp kd hrT.2.1, hrT.2.2⟩
    · rintro σ H' ⟨y6, y7, y8, es, rfl, sm, hd, hes, hok, hbad⟩
      rw [rv_len, List.take_length] at hes
      have hbn : badOf rs = none := by
        rw [rv_len] at hbad
        rw [hbad, List.drop_of_length_le (by simp [cs])]; rfl
      have h0 : H' p = some (.ins C dx []) := sm _ _ hp
      refine ⟨.str nm, rfl, .ref p, rfl, p, C, dx, [], rfl, h0, T.cl, T.n1, (by show 0 < 1000; decide), ?_⟩
      refine ⟨.int h, rfl, .ref p, rfl, p, C, dx, _, rfl, upd_same, T.cl, T.n2, (by show 1 < 1000; decide), ?_⟩
      refine ⟨.int b, rfl, .ref p, rfl, p, C, dx, _, rfl, upd_same, T.cl, T.n3, (by show 2 < 1000; decide), ?_⟩
      refine ⟨.ref d, rfl, .ref p, rfl, p, C, dx, _, rfl, upd_same, T.cl, T.n4, (by show 3 < 1000; decide), ?_⟩
      rw [upd_upd, upd_upd, upd_upd]
      refine q hbn _ (fun x o hx e => by rw [upd_ne hx]; exact sm _ _ e) ⟨dx, d, _, es, upd_same, ?_, ?_, ?_, ?_, by rw [upd_ne (Ne.symm npd)]; exact hd, hes, (fun e he => (hok e he).kp (Kp.but h0 (fun z => z) upd_but)), ?_, ?_⟩
      · rw [lookup_putF, if_neg (by decide +kernel), lookup_putF, if_neg (by decide +kernel), lookup_putF, if_neg (by decide +kernel), lookup_putF, if_pos rfl]
      · rw [lookup_putF, if_neg (by decide +kernel), lookup_putF, if_neg (by decide +kernel), lookup_putF, if_pos rfl]
      · rw [lookup_putF, if_neg (by decide +kernel), lookup_putF, if_pos rfl]
      · rw [lookup_putF, if_pos rfl]
      · rw [lookup_putF, if_neg (by decide +kernel), lookup_putF, if_neg (by decide +kernel), lookup_putF, if_neg (by decide +kernel), lookup_putF, if_neg (by decide +kernel)]; rfl
      · rw [lookup_putF, if_neg (by decide +kernel), lookup_putF, if_neg (by decide +kernel), lookup_putF, if_neg (by decide +kernel), lookup_putF, if_neg (by decide +kernel)]; rfl
/-! ### in, len, iter -/
def spHas (C : Addr) : Sp := fun vs H Q _ => ∃ (p : Addr) (c : Nat) (nm : Str) (h b : Int) (rs : List Rw), vs = [.ref p, .str (sg c)] ∧ FA C H p nm h b rs ∧ Q (.bl (decide (c ∈ cs rs))) H
theorem scHas : FnScope ["self", "sign"] ["self", "sign"] (defScope sHas) := ⟨rfl, rfl, rfl, by decide +kernel, rfl, by decide +kernel, by decide +kernel⟩
theorem ok_has {C f : Addr} {fd : FuncData} (T : Fce K mg C) (F : Fun K "__contains__" "Face.__contains__" sHas f fd) : FnOk P w K mg base CX0 1 f fd ["self", "sign"] (spHas C) := by
  refine F.ok scHas (fun vs H Q E h => ?_) (fun cdv A0 outer s H vs Q E hr h => ?_)
  · obtain ⟨p, c, nm, h, b, rs, rfl, _⟩ := h; rfl
  · obtain ⟨p, c, nm, h, b, rs, rfl, ⟨dx, d, fs, es, h1, h2, h3, h4, h5, h6, h7, h8, _⟩, q⟩ := h
    refine ⟨_, (pss_one (ps_ret (pe_cmp (pc_din (hu_of hr) (pv 1) (pe_fld (pv 0) rfl))))), ?_⟩
    refine ⟨.str (sg c), rfl, .ref p, rfl, p, C, dx, fs, _, rfl, h1, T.cl, T.n4, h5, d, _, rfl, DGet.k (k := Sum.inr (sg c)) h6, ?_⟩
    rw [valE_some, h7]; exact q
theorem call_lenRd {X : Cx} : CallR X (.builtin "len") (fun xs H Q => ∃ a kvs, xs = [V.ref a] ∧ Rd H a (.dK kvs) ∧ Q (.int kvs.length) H) := by
  intro pins s σ H xs us Q I r h
  obtain ⟨a, kvs, rfl, ha, q⟩ := h
  obtain ⟨u, rfl, ru⟩ := vals1 r
  cases ru
  exact d_len I ha fun t s' I' => ⟨.int kvs.length, H, I', ⟨t, rfl⟩, q⟩
def spLen (C : Addr) : Sp := fun vs H Q _ => ∃ (p dx d : Addr) (fs : List (Str × V)) (kvs : List (Key × V)), vs = [.ref p] ∧ H p = some (.ins C dx fs) ∧ fs.lookup ("_rows" : Str) = some (.ref d) ∧ Rd H d (.dK kvs) ∧ Q (.int ((kvs.length : Nat) : Int)) H
theorem scLen : FnScope ["self"] ["self"] (defScope sLen) := ⟨rfl, rfl, rfl, by decide +kernel, rfl, by decide +kernel, by decide +kernel⟩
theorem ok_len {C f : Addr} {fd : FuncData} (B : Blt mg) (T : Fce K mg C) (F : Fun K "__len__" "Face.__len__" sLen f fd) : FnOk P w K mg base CX0 1 f fd ["self"] (spLen C) := by
  refine F.ok scLen (fun vs H Q E h => ?_) (fun cdv A0 outer s H vs Q E hr h => ?_)
  · obtain ⟨p, dx, d, fs, kvs, rfl, _⟩ := h; rfl
  · obtain ⟨p, dx, d, fs, kvs, rfl, hp, ff, hd, q⟩ := h
    refine ⟨_, (pss_one (ps_ret (pe_callB call_lenRd (by rfl) B.len PySem.boot_len (pa_cons (pe_fld (pv 0) rfl) pa_nil)))), ?_⟩
    exact ⟨.ref p, rfl, p, C, dx, fs, _, rfl, hp, T.cl, T.n4, ff, d, kvs, rfl, hd, q⟩
theorem scIter : FnScope ["self"] ["self"] (defScope sIter) := ⟨rfl, rfl, rfl, by decide +kernel, rfl, by decide +kernel, by decide +kernel⟩
theorem ok_iter {C f : Addr} {fd : FuncData} (B : Blt mg) (T : Fce K mg C) (F : Fun K "__iter__" "Face.__iter__" sIter f fd) : RO.FnN P w K mg base CX0 1 f fd ["self"] (RK.spItK C "_rows") := by
  refine RO.fun_okN F scIter (fun n vs H Q E h => ?_) (fun cdv A0 outer s H vs Q E hr h => ?_)
  · obtain ⟨p, dx, d, fs, o, kvs, rfl, _⟩ := h; rfl
  · obtain ⟨p, dx, d, fs, o, kvs, rfl, hp, hf, hd, q⟩ := h
    refine ⟨_, (pss_one (ps_ret (pe_callB RK.call_iterK (by rfl) B.iter (by decide +kernel) (pa_cons (pe_fld (pv 0) rfl) pa_nil)))), ?_⟩
    exact ⟨.ref p, rfl, p, C, dx, fs, _, rfl, hp, T.cl, T.n4, hf, d, o, kvs, rfl, hd, q⟩
/-! ### advance, outline -/
def spAdv (C : Addr) : Sp := fun vs H Q _ => ∃ (p : Addr) (c : Nat) (nm : Str) (h b : Int) (rs : List Rw), vs = [.ref p, .str (sg c)] ∧ FA C H p nm h b rs ∧ Q (.int (advOf b rs c)) H
theorem scAdv : FnScope ["self", "sign"] ["self", "sign"] (defScope sAdv) := ⟨rfl, rfl, rfl, by decide +kernel, rfl, by decide +kernel, by decide +kernel⟩
theorem ok_adv {C f : Addr} {fd : FuncData} (Z : Cst mg t1) (T : Fce K mg C) (F : Fun K "advance" "Face.advance" sAdv f fd) : FnOk P w K mg base CX0 1 f fd ["self", "sign"] (spAdv C) := by
  refine F.ok scAdv (fun vs H Q E h => ?_) (fun cdv A0 outer s H vs Q E hr h => ?_)
  · obtain ⟨p, c, nm, h, b, rs, rfl, _⟩ := h; rfl
  · obtain ⟨p, c, nm, h, b, rs, rfl, ⟨dx, d, fs, es, h1, h2, h3, h4, h5, h6, h7, h8, _⟩, q⟩ := h
    refine ⟨_, (pss_cons (ps_if (pt_cmpR op_eq (pv 1) (pe_glob (v := .str (Str.ofString " ")) (by rfl) Z ⟨_, rfl⟩) (nomark _)) (pss_one (ps_ret (pe_fld (pv 0) rfl))) pss_nil)
      (pss_cons (ps_if (pt_cmp (pc_dnotin (hu_of hr) (pv 1) (pe_fld (pv 0) rfl))) (pss_one (ps_ret pe_int)) pss_nil)
      (pss_one (ps_ret (pe_ix ix_tup (pe_dget (hu_of hr) (pe_fld (pv 0) rfl) (pv 1) (fun _ _ => rfl)) pe_int (fun _ _ => rfl)))))), ?_⟩
    refine ⟨.str (sg c), rfl, rfl, _, rfl, ?_⟩
    rw [eSp, eqS]
    refine ite2 (fun hc => ?_) (fun hc => ?_)
    · refine ⟨.ref p, rfl, p, C, dx, fs, _, rfl, h1, T.cl, T.n3, h4, ?_⟩
      unfold advOf at q; rw [if_pos (of_decide_eq_true hc)] at q; exact q
    have hc2 : ¬ c = 32 := fun e => hc (decide_eq_true e)
    unfold advOf at q; rw [if_neg hc2] at q
    refine ⟨.str (sg c), rfl, .ref p, rfl, p, C, dx, fs, _, rfl, h1, T.cl, T.n4, h5, d, _, rfl, DGet.k (k := Sum.inr (sg c)) h6, _, rfl, ?_⟩
    have hf := find_ent c es
    rw [h7] at hf
    cases hr0 : es.find? (fun e => decide (e.1.c = c)) with
    | none =>
      have hv : valV (kvE es) (Sum.inr (sg c)) = none := by rw [valE, hr0]; rfl
      have hro : rowOf rs c = none := by unfold rowOf; rw [hf, hr0]; rfl
      rw [hro] at q
      rw [hv]
      exact iteT q
    | some e =>
      have hv : valV (kvE es) (Sum.inr (sg c)) = some (V.ref e.2) := by rw [valE, hr0]; rfl
      have hro : rowOf rs c = some e.1 := by unfold rowOf; rw [hf, hr0]; rfl
      have hen := h8 e (List.mem_of_find?_eq_some hr0)
      rw [hro] at q
      rw [hv]
      refine iteF ⟨.ref p, rfl, p, C, dx, fs, _, rfl, h1, T.cl, T.n4, h5, .str (sg c), rfl, d, .ref e.2, rfl, ?_, ?_⟩
      · have := DGet.k (k := Sum.inr (sg c)) h6
        rw [hv] at this; exact this
      · exact ⟨e.2, _, 0, .int e.1.n, rfl, rfl, SqT.of hen.1, rfl, q⟩
def spOut (C : Addr) : Sp := fun vs H Q _ => ∃ (p : Addr) (c : Nat) (nm : Str) (h b : Int) (rs : List Rw), vs = [.ref p, .str (sg c)] ∧ FA C H p nm h b rs ∧ (rowOf rs c = none → ∀ H' t, Same H H' → H' t = some (.tup []) → Q (.ref t) H') ∧ (∀ r, rowOf rs c = some r → Q (.ref r.o) H)
theorem scOut : FnScope ["self", "sign"] ["self", "sign"] (defScope sOut) := ⟨rfl, rfl, rfl, by decide +kernel, rfl, by decide +kernel, by decide +kernel⟩
theorem ok_out {C f : Addr} {fd : FuncData} (T : Fce K mg C) (F : Fun K "outline" "Face.outline" sOut f fd) : FnOk P w K mg base CX0 1 f fd ["self", "sign"] (spOut C) := by
  refine F.ok scOut (fun vs H Q E h => ?_) (fun cdv A0 outer s H vs Q E hr h => ?_)
  · obtain ⟨p, c, nm, h, b, rs, rfl, _⟩ := h; rfl
  · obtain ⟨p, c, nm, h, b, rs, rfl, ⟨dx, d, fs, es, h1, h2, h3, h4, h5, h6, h7, h8, _⟩, q1, q2⟩ := h
    refine ⟨_, (pss_cons (ps_if (pt_cmp (pc_dnotin (hu_of hr) (pv 1) (pe_fld (pv 0) rfl))) (pss_one (ps_ret (pe_tup pa_nil))) pss_nil)
      (pss_one (ps_ret (pe_ix ix_tup (pe_dget (hu_of hr) (pe_fld (pv 0) rfl) (pv 1) (fun _ _ => rfl)) pe_int (fun _ _ => rfl))))), ?_⟩
    refine ⟨.str (sg c), rfl, .ref p, rfl, p, C, dx, fs, _, rfl, h1, T.cl, T.n4, h5, d, _, rfl, DGet.k (k := Sum.inr (sg c)) h6, _, rfl, ?_⟩
    have hf := find_ent c es
    rw [h7] at hf
    cases hr0 : es.find? (fun e => decide (e.1.c = c)) with
    | none =>
      have hv : valV (kvE es) (Sum.inr (sg c)) = none := by rw [valE, hr0]; rfl
      have hro : rowOf rs c = none := by unfold rowOf; rw [hf, hr0]; rfl
      rw [hv]
      exact iteT ⟨Nat.zero_le _, fun t nt => q1 hro _ t (same_new nt) upd_same⟩
    | some e =>
      have hv : valV (kvE es) (Sum.inr (sg c)) = some (V.ref e.2) := by rw [valE, hr0]; rfl
      have hro : rowOf rs c = some e.1 := by unfold rowOf; rw [hf, hr0]; rfl
      have hen := h8 e (List.mem_of_find?_eq_some hr0)
      rw [hv]
      refine iteF ⟨.ref p, rfl, p, C, dx, fs, _, rfl, h1, T.cl, T.n4, h5, .str (sg c), rfl, d, .ref e.2, rfl, ?_, ?_⟩
      · have := DGet.k (k := Sum.inr (sg c)) h6
        rw [hv] at this; exact this
      · exact ⟨e.2, _, 1, .ref e.1.o, rfl, rfl, SqT.of hen.1, rfl, q2 _ hro⟩
end
end K24

set_option maxRecDepth 100000
set_option maxHeartbeats 8000000
namespace K24
open PySem PySem.Spec PyProof.Rows L2
theorem take_mapI (f : Nat → Int) {l : List Nat} {i c : Nat} (h : l[i]? = some c) : ((l.take i).map f).map V.int ++ [V.int (f c)] = ((l.take (i + 1)).map f).map V.int := by
  rw [List.take_add_one, h, List.map_append, List.map_append]; rfl
def widthOf (b : Int) (rs : List Rw) (l : List Nat) (s w : Int) : Int := (l.map fun c => advOf b rs c * s + w).sum
section
variable {P : Program} {w : World} {K : PySem.W.Frag} {mg : Str → Option Value} {base : Heap} {t1 : Tok}
/-! ### Face.__call__ -/
abbrev pCa : List Str := ["self", "text", "size", "wide"]
abbrev nCa : List Str := ["self", "text", "size", "wide", "sign"]
theorem scCall : FnScope nCa pCa (defScope sCall) := ⟨rfl, rfl, rfl, by decide +kernel, rfl, by decide +kernel, by decide +kernel⟩
abbrev CallD (K : PySem.W.Frag) (f : Addr) (fd : FuncData) : Prop := FunD K "__call__" "Face.__call__" (defArgs sCall) (defBody sCall) (defScope sCall) [.int 1, .int 0] [] f fd
def spCall (C : Addr) : Sp := fun vs H Q _ => ∃ (p : Addr) (z nm : Str) (s w h b : Int) (rs : List Rw), vs = [.ref p, .str z, .int s, .int w] ∧ FA C H p nm h b rs ∧ z.length ≤ 1000 ∧ 0 ≤ s ∧ s ≤ 1000 ∧ ∀ H', Same H H' → Q (.int (widthOf b rs (tl z) s w)) H'
theorem ok_callf {C f f_advance : Addr} {fd fd_advance : FuncData} (B : Blt mg) (Z : Cst mg t1) (T : Fce K mg C) (F : CallD K f fd)
    (F_advance : Fun K "advance" "Face.advance" sAdv f_advance fd_advance) (b_advance : Binds K fd_advance ["self", "sign"] []) (m_advance : Meth K C "advance" f_advance) :
    FnOk P w K mg base CX0 2 f fd pCa (spCall C) := by
  have G_advance : FnOk P w K mg base CX0 1 f_advance fd_advance ["self", "sign"] (spAdv C) := ok_adv Z T F_advance
  refine F.ok scCall (fun vs H Q E h => ?_) (fun cdv A0 outer s H vs Q E hr h => ?_)
  · obtain ⟨p, z, nm, s, w, h, b, rs, rfl, _⟩ := h; rfl
  · obtain ⟨p, z, nm, sz, wd, h, b, rs, rfl, hf, hz, hs0, hs1, q⟩ := h
    refine ⟨_, PSs.nox (pss_one (ps_ret (pe_callB (cr_sum rfl) (by rfl) B.sum (by decide +kernel) (pa_cons (pe_lc (own := [("sign", 4)]) (g := gName 4) (tt := tYes) rfl scCall.nd (pi_str (pv 1)) (blkOk_by (N := nCa) (sc := defScope sCall) (by decide +kernel)) (fun _ _ _ _ _ => (pg_name (i := 4) scCall.nd rfl (.inl rfl))) (fun _ _ _ _ _ => pts_nil) (fun _ _ _ _ _ => (pe_op op_add (pe_op op_mul (pe_meth (pv 0) T.cl m_advance G_advance hr b_advance .nil pass0 (pa_cons (pv 4) pa_nil)) (pv 2)) (pv 3)))) pa_nil)))), ?_⟩
    refine ⟨.str z, rfl, z, rfl, fun D hD => ?_⟩
    refine lc_it walk_str (fun i H' => H' D = some (.lst ((((tl z).take i).map fun c => advOf b rs c * sz + wd).map V.int)) ∧ Same H H') ⟨upd_same, same_new hD⟩ (fun _ _ _ _ => trivial) ?_ ?_
    · rintro i v H1 H2 hi ⟨hD', sm⟩ ⟨rfl, c, hc, rfl⟩
      have hc' : (tl z)[i]? = some c := by simpa [tl] using hc
      have hi2 : i < z.length := hi
      obtain ⟨dx, d, fs, es, h1, h2, h3, h4, h5, h6, h7, h8, h9, _⟩ := id (hf.same sm)
      refine ⟨rfl, .ref p, rfl, p, dx, fs, rfl, h1, h9, .str (sg c), rfl, p, c, nm, h, b, rs, rfl, hf.same sm, ?_⟩
      refine ⟨_, rfl, _, sz, rfl, rfl, .inr ⟨by omega, by omega⟩, _, rfl, _, wd, rfl, rfl, ?_⟩
      refine ⟨_, hD', ?_, ?_, same_at sm hD⟩
      · rw [List.length_map, List.length_map, List.length_take]; exact small1000 (by omega)
      · rw [upd_same, ← take_mapI _ hc']
    · rintro H' ⟨hD', sm⟩
      have e : (tl z).take z.cps.size = tl z := List.take_of_length_le (by rw [tl_len]; exact Nat.le_refl _)
      rw [e] at hD'
      exact ⟨D, _, rfl, SqL.of hD', q H' sm⟩
/-! how a call binds -/
section
variable {f : Addr} {fd : FuncData}
theorem call_b1 (F : CallD K f fd) : ∃ ds, Vals [.int 1, .int 0] ds ∧ Binds K fd pCa ds :=
  F.binds1 2 0 (fun z => nomatch z) rfl fun T kV doc pm an cdv ct us its e1 e2 => match us, its, e1, e2 with | [_, _], [_, _], _, _ => ⟨_, rfl, rfl⟩
theorem call_b3 (F : CallD K f fd) : ∃ ds, Vals ([] : List V) ds ∧ Binds K fd pCa ds :=
  F.binds1 4 2 (fun z => nomatch z) rfl fun T kV doc pm an cdv ct us its e1 e2 => match us, its, e1, e2 with | [_, _, _, _], [_, _], _, _ => ⟨_, rfl, rfl⟩
theorem call_ks (F : CallD K f fd) : ∃ its : List Value, KBn K fd pCa 2 ["size"] (fun us ws => us ++ ws ++ its.drop 1) (fun vs zs => vs ++ zs ++ [.int 0]) :=
  F.kbindsD 2 ["size"] (fun us its ws => us ++ ws ++ its.drop 1) (fun z => nomatch z) (fun r1 r2 r3 => (r1.append r3).append (r2.drop 1)) fun T kV doc pm an cdv ct us its ws e1 e2 e3 => match us, its, ws, e1, e2, e3 with | [_, _], [_, _], [_], _, _, _ => ⟨_, rfl, rfl⟩
theorem call_kw (F : CallD K f fd) : ∃ its : List Value, KBn K fd pCa 2 ["wide"] (fun us ws => us ++ its.take 1 ++ ws) (fun vs zs => vs ++ [.int 1] ++ zs) :=
  F.kbindsD 2 ["wide"] (fun us its ws => us ++ its.take 1 ++ ws) (fun z => nomatch z) (fun r1 r2 r3 => (r1.append (r2.take 1)).append r3) fun T kV doc pm an cdv ct us its ws e1 e2 e3 => match us, its, ws, e1, e2, e3 with | [_, _], [_, _], [_], _, _, _ => ⟨_, rfl, rfl⟩
theorem call_k3 (F : CallD K f fd) : ∃ its : List Value, KBn K fd pCa 3 ["wide"] (fun us ws => us ++ ws) (fun vs zs => vs ++ zs) :=
  F.kbindsD 3 ["wide"] (fun us its ws => us ++ ws) (fun z => nomatch z) (fun r1 r2 r3 => r1.append r3) fun T kV doc pm an cdv ct us its ws e1 e2 e3 => match us, its, ws, e1, e2, e3 with | [_, _, _], [_, _], [_], _, _, _ => ⟨_, rfl, rfl⟩
theorem call_ksw (F : CallD K f fd) : ∃ its : List Value, KBn K fd pCa 2 ["size", "wide"] (fun us ws => us ++ ws) (fun vs zs => vs ++ zs) :=
  F.kbindsD 2 ["size", "wide"] (fun us its ws => us ++ ws) (fun z => nomatch z) (fun r1 r2 r3 => r1.append r3) fun T kV doc pm an cdv ct us its ws e1 e2 e3 => match us, its, ws, e1, e2, e3 with | [_, _], [_, _], [_, _], _, _, _ => ⟨_, rfl, rfl⟩
theorem vals_rev : ∀ {vs : List V} {us : List Value}, Vals vs us → Vals vs.reverse us.reverse
  | _, _, .nil => .nil
  | _, _, .cons r t => by rw [List.reverse_cons, List.reverse_cons]; exact (vals_rev t).append (.cons r .nil)
theorem call_kws (F : CallD K f fd) : ∃ its : List Value, KBn K fd pCa 2 ["wide", "size"] (fun us ws => us ++ ws.reverse) (fun vs zs => vs ++ zs.reverse) :=
  F.kbindsD 2 ["wide", "size"] (fun us its ws => us ++ ws.reverse) (fun z => nomatch z) (fun r1 r2 r3 => r1.append (vals_rev r3)) fun T kV doc pm an cdv ct us its ws e1 e2 e3 => match us, its, ws, e1, e2, e3 with | [_, _], [_, _], [_, _], _, _, _ => ⟨_, rfl, rfl⟩
end
end
end K24

set_option maxRecDepth 100000
set_option maxHeartbeats 8000000
namespace K24
open PySem PySem.Spec PyProof.Rows L2
/-! ### list(text) -/
theorem call_listS {X : Cx} (hc : X.calm = true) : CallR X (.type "list") (fun xs H Q => ∃ z, xs = [.str z] ∧ z.length ≤ 1000 ∧ ∀ q, H q = none → Q (.ref q) (upd H q (.lst ((tl z).map fun c => V.str (sg c))))) := by
  intro pins s σ H xs us Q I r h
  obtain ⟨z, rfl, hz, q⟩ := h
  obtain ⟨u, rfl, ru⟩ := vals1 r
  obtain ⟨t, rfl⟩ := ru
  have hsz : z.cps.size ≤ sizeLine := Nat.le_trans hz (by decide)
  refine call_list_str (hn := hsz) (I.ok.hd hc) z t fun h' tk acc' c' hk hS hacc => ?_
  refine ⟨.ref s.heap.objs.size, upd H s.heap.objs.size (.lst ((tl z).map fun c => V.str (sg c))), I.laid hk (Nat.le_refl _) (show ObjOk X.prog X.w _ _ _ (.lst ((tl z).map fun c => V.str (sg c))) from ⟨?_, acc'.toList, c', ?_, ?_⟩), rfl, q _ (I.hok.fresh (Nat.le_refl _))⟩
  · rw [List.length_map, tl_len]; exact hsz
  · refine vals_of_at (by rw [List.length_map, tl_len]; exact (show acc'.toList.length = acc'.size from Array.length_toList).trans hacc.1 |>.symm) fun j x w h1 h2 => ?_
    obtain ⟨c, u, hcx, rfl⟩ := hacc.2 j w (by rw [← Array.getElem?_toList]; exact h2)
    rw [List.getElem?_map, show (tl z)[j]? = some c by simpa [tl] using hcx] at h1
    cases h1
    exact ⟨u, rfl⟩
  · rw [Array.toArray_toList]; exact hS
/-! ### the signs -/
def sgA : Str := Str.ofString " !\"#$&'()*+,-./0123456789:;<=>?@ABCDEFGHIJKLMNOPQRSTUVWXYZ^_`"
def sgB : Str := Str.ofString "abcdefghijklmnopqrstuvwxyz{|}~"
def signs : Str := sgA ++ sgB
theorem signs_len : signs.length = 91 := by decide +kernel
def left0 : List Nat := (tl signs).drop 1
theorem left_len : left0.length = 90 := by decide +kernel
theorem left_nd : left0.Nodup := by decide +kernel
theorem left_no : 32 ∉ left0 := by decide +kernel
abbrev okC (c : Nat) : Prop := c < 128
theorem left_ok : ∀ c ∈ left0, okC c := by decide +kernel
section
variable {P : Program} {w : World} {K : PySem.W.Frag} {mg : Str → Option Value} {base : Heap} {t1 : Tok}
def spSigns : Sp := fun vs H Q _ => vs = [] ∧ Q (.str signs) H
theorem scSigns : FnScope [] [] (defScope sSigns) := ⟨rfl, rfl, rfl, by decide +kernel, rfl, by decide +kernel, by decide +kernel⟩
theorem ok_signs {f : Addr} {fd : FuncData} (F : Fun K "_law_signs" "_law_signs" sSigns f fd) : FnOk P w K mg base CX0 1 f fd [] spSigns := by
  refine F.ok scSigns (fun vs H Q E h => ?_) (fun cdv A0 outer s H vs Q E hr h => ?_)
  · obtain ⟨rfl, _⟩ := h; rfl
  · obtain ⟨rfl, q⟩ := h
    refine ⟨_, (pss_one (ps_ret (pe_op op_add_str pe_str pe_str))), ?_⟩
    exact ⟨_, _, rfl, rfl, by decide +kernel, q⟩
/-! ### _law_outline -/
theorem tv_tup {n : Nat} {H : Hp} {t : Addr} {xs : List V} (h : H t = some (.tup xs)) (hl : xs.length ≤ 1000) (hx : ∀ v ∈ xs, TupV n H v) : TupV (n + 1) H (.ref t) := .inr ⟨t, xs, rfl, h, hl, hx⟩
theorem tv_int (H : Hp) (i : Int) : ∀ n, TupV n H (.int i)
  | 0 => ⟨i, rfl⟩
  | _ + 1 => .inl ⟨i, rfl⟩
theorem tv_pt {H : Hp} {t : Addr} {x y : Int} (h : H t = some (.tup [.int x, .int y])) : TupV 1 H (.ref t) := tv_tup h (by show 2 ≤ 1000; decide) fun v hv => by
  rcases List.mem_cons.mp hv with rfl | hv
  · exact tv_int H _ 0
  · rw [List.mem_singleton.mp hv]; exact tv_int H _ 0
theorem sv_str (H : Hp) (z : Str) : ∀ n, SameV n H (.str z) (.str z)
  | 0 => ⟨rfl, .inl ⟨z, rfl⟩⟩
  | _ + 1 => .inl ⟨rfl, .inl ⟨z, rfl⟩⟩
theorem sv_int (H : Hp) (i : Int) : ∀ n, SameV n H (.int i) (.int i)
  | 0 => ⟨rfl, .inr ⟨i, rfl⟩⟩
  | _ + 1 => .inl ⟨rfl, .inr ⟨i, rfl⟩⟩
def spOutline : Sp := fun vs H Q _ => ∃ (m pk : Int), vs = [.int m, .int pk] ∧ 0 ≤ m ∧ m ≤ 100 ∧ ∀ H' o, Same H H' → OutV H' o → Q (.ref o) H'
theorem scOutline : FnScope ["_law_many", "_law_pick", "_law_rings", "_law_k", "_law_x", "_law_y"] ["_law_many", "_law_pick"] (defScope sOutline) := ⟨rfl, rfl, rfl, by decide +kernel, rfl, by decide +kernel, by decide +kernel⟩
theorem ok_outline {f : Addr} {fd : FuncData} (B : Blt mg) (F : Fun K "_law_outline" "_law_outline" sOutline f fd) : FnOk P w K mg base CX0 1 f fd ["_law_many", "_law_pick"] spOutline := by
  refine F.ok scOutline (fun vs H Q E h => ?_) (fun cdv A0 outer s H vs Q E hr h => ?_)
  · obtain ⟨m, pk, rfl, _⟩ := h; rfl
  · obtain ⟨m, pk, rfl, hm0, hm1, q⟩ := h
    refine ⟨_, (pss_cons (ps_set (i := 2) scOutline.nd rfl (.inl rfl) (pe_lst pa_nil))
      (pss_cons (ps_for (PassesOwn.never) rfl (pi_range1 (by rfl) B.range (pa_cons (pv 0) pa_nil)) (pg_name (i := 3) scOutline.nd rfl (.inl rfl))
      (pss_cons (ps_par (i := 4) (j := 5) (by rfl) scOutline.nd rfl rfl (by decide) rfl rfl (pa_cons (pe_op op_modN (pe_callTy call_int1 (by rfl) B.int (by decide +kernel) (pa_cons (pe_op op_add (pv 1) (pe_op op_mul pe_int (pv 3))) pa_nil)) pe_int) (pa_cons (pe_op op_modN (pe_callTy call_int1 (by rfl) B.int (by decide +kernel) (pa_cons (pe_op op_add (pe_op op_fdivN (pv 1) pe_int) (pe_op op_mul pe_int (pv 3))) pa_nil)) pe_int) pa_nil)) (by rfl))
       (pss_one (ps_expr (pe_bm PySem.F.plainAttrs_list PySem.F.slot_list_append PySem.F.type_list_append mt_append (pv 2) (pa_cons (pe_tup (pa_cons (pe_tup (pa_cons (pv 4) (pa_cons (pv 5) pa_nil))) (pa_cons (pe_tup (pa_cons (pe_op op_add (pv 4) pe_int) (pa_cons (pv 5) pa_nil))) (pa_cons (pe_tup (pa_cons (pe_op op_add (pv 4) pe_int) (pa_cons (pe_op op_add (pv 5) pe_int) pa_nil))) pa_nil)))) pa_nil))))))
      (pss_one (ps_ret (pe_callTy call_tuple_of (by rfl) B.tuple (by decide +kernel) (pa_cons (pv 2) pa_nil)))))), ?_⟩
    refine ⟨Nat.zero_le _, fun rp nr => ?_⟩
    have s1 : Same H (upd H rp (.lst [])) := same_new nr
    have h1 : (upd H rp (.lst [])) rp = some (.lst []) := upd_same
    generalize upd H rp (.lst []) = H1 at s1 h1 ⊢
    refine ⟨.int m, rfl, m, rfl, by omega, by omega, for_range (lo := 0) (n := m.toNat) (fun i σ H' => ∃ (y3 y4 y5 : Option V) (os : List Addr), σ = [some (.int m), some (.int pk), some (.ref rp), y3, y4, y5] ∧ Same H H' ∧ H' rp = some (.lst (os.map V.ref)) ∧ os.length = i ∧ ∀ o ∈ os, TupV 2 H' (.ref o)) ⟨none, none, none, [], rfl, s1, h1, rfl, (fun o ho => nomatch ho)⟩ ?_ ?_⟩
    · rintro i σ H' hi ⟨y3, y4, y5, os, rfl, sm, hrp, hl, hos⟩
      have e0 : (0 : Int) + (i : Int) = (i : Int) := by omega
      rw [e0]
      have hsz : (os.map V.ref).length < sizeLine := by rw [List.length_map]; exact small1000 (by omega)
      refine ⟨.int pk, rfl, .int (i : Int), rfl, 5, (i : Int), rfl, rfl, .inl ⟨by decide, by decide⟩, pk, _, rfl, rfl, .inl ⟨_, rfl, _, 12, rfl, rfl, (show (12 : Int) ≠ 0 by decide), ?_⟩⟩
      refine ⟨.int pk, rfl, pk, 12, rfl, rfl, ⟨by decide, by decide⟩, .int (i : Int), rfl, 7, (i : Int), rfl, rfl, .inl ⟨by decide, by decide⟩, _, _, rfl, rfl, .inl ⟨_, rfl, _, 12, rfl, rfl, (show (12 : Int) ≠ 0 by decide), ?_⟩⟩
      refine ⟨.int ((pk + 5 * (i : Int)).fmod 12), .int ((pk.fdiv 12 + 7 * (i : Int)).fmod 12), rfl, ?_⟩
      generalize (pk + 5 * (i : Int)).fmod 12 = x
      generalize (pk.fdiv 12 + 7 * (i : Int)).fmod 12 = y
      refine ⟨.ref rp, rfl, .inl ⟨rfl, _, SqL.of hrp⟩, .int x, rfl, .int y, rfl, by show 2 ≤ sizeLine; decide, fun T1 n1 => ?_⟩
      have s2 := same_new n1 (o := .tup [.int x, .int y])
      have g1 : (upd H' T1 (.tup [.int x, .int y])) T1 = some (.tup [.int x, .int y]) := upd_same
      generalize upd H' T1 (.tup [.int x, .int y]) = H2 at s2 g1 ⊢
      refine ⟨.int x, rfl, x, 1, rfl, rfl, .int y, rfl, by show 2 ≤ sizeLine; decide, fun T2 n2 => ?_⟩
      have s3 := same_new n2 (o := .tup [.int (x + 1), .int y])
      have g2 : (upd H2 T2 (.tup [.int (x + 1), .int y])) T2 = some (.tup [.int (x + 1), .int y]) := upd_same
      generalize upd H2 T2 (.tup [.int (x + 1), .int y]) = H3 at s3 g2 ⊢
      refine ⟨.int x, rfl, x, 1, rfl, rfl, .int y, rfl, y, 1, rfl, rfl, by show 2 ≤ sizeLine; decide, fun T3 n3 => ?_⟩
      have s4 := same_new n3 (o := .tup [.int (x + 1), .int (y + 1)])
      have g3 : (upd H3 T3 (.tup [.int (x + 1), .int (y + 1)])) T3 = some (.tup [.int (x + 1), .int (y + 1)]) := upd_same
      generalize upd H3 T3 (.tup [.int (x + 1), .int (y + 1)]) = H4 at s4 g3 ⊢
      refine ⟨by show 3 ≤ sizeLine; decide, fun T4 n4 => ?_⟩
      have s5 := same_new n4 (o := .tup [.ref T1, .ref T2, .ref T3])
      have g4 : (upd H4 T4 (.tup [.ref T1, .ref T2, .ref T3])) T4 = some (.tup [.ref T1, .ref T2, .ref T3]) := upd_same
      generalize upd H4 T4 (.tup [.ref T1, .ref T2, .ref T3]) = H5 at s5 g4 ⊢
      have sA : Same H' H5 := s2.trans (s3.trans (s4.trans s5))
      refine ⟨rp, _, _, rfl, rfl, sA _ _ hrp, hsz, ?_⟩
      have kp : Kp H5 (upd H5 rp (.lst (os.map V.ref ++ [.ref T4]))) := Kp.but (sA _ _ hrp) (fun z => z) upd_but
      have tT : TupV 2 H5 (.ref T4) := tv_tup g4 (by show 3 ≤ 1000; decide) fun v hv => by
        rcases List.mem_cons.mp hv with rfl | hv
        · exact tv_pt (s5 _ _ (s4 _ _ (s3 _ _ g1)))
        · rcases List.mem_cons.mp hv with rfl | hv
          · exact tv_pt (s5 _ _ (s4 _ _ g2))
          · rw [List.mem_singleton.mp hv]; exact tv_pt (s5 _ _ g3)
      refine ⟨_, _, _, os ++ [T4], rfl, same_at (sm.trans sA) nr, by rw [upd_same, List.map_append]; rfl, by rw [List.length_append, hl]; rfl, fun o ho => ?_⟩
      rcases List.mem_append.mp ho with ho | ho
      · exact ((hos o ho).kp (.of sA)).kp kp
      · rw [List.mem_singleton.mp ho]; exact tT.kp kp
    · rintro σ H' ⟨y3, y4, y5, os, rfl, sm, hrp, hl, hos⟩
      refine ⟨.ref rp, rfl, rp, _, rfl, .inl ⟨SqL.of hrp, fun o no => ?_⟩⟩
      have s2 := same_new no (o := .tup (os.map V.ref))
      have hl' : os.length ≤ 1000 := by omega
      refine q _ o (sm.trans s2) (tv_tup upd_same (by rw [List.length_map]; exact hl') fun v hv => ?_)
      obtain ⟨a, ha, rfl⟩ := List.mem_map.mp hv
      exact (hos a ha).kp (.of s2)
end
end K24

set_option maxRecDepth 100000
set_option maxHeartbeats 8000000
namespace K24
open PySem PySem.Spec PyProof.Rows L2
theorem badFrom_none : ∀ (l seen : List Nat), (seen ++ l).Nodup → 32 ∉ l → badFrom seen l = none
  | [], _, _, _ => rfl
  | c :: l, seen, hn, h32 => by
    unfold badFrom
    have hc : ¬ (c = 32 ∨ c ∈ seen) := fun z => by
      rcases z with z | z
      · exact h32 (by rw [z]; exact List.mem_cons_self)
      · exact (List.nodup_append.mp hn).2.2 c z c List.mem_cons_self rfl
    rw [if_neg hc]
    exact badFrom_none l (seen ++ [c]) (by rw [List.append_assoc]; exact hn) fun h => h32 (List.mem_cons_of_mem _ h)
theorem ne_len {H : Hp} {a b : Addr} {xs ys : List V} (ha : H a = some (.lst xs)) (hb : H b = some (.lst ys)) (h : xs.length ≠ ys.length) : a ≠ b := fun e => by
  rw [e, hb] at ha; injection ha with ha; injection ha with ha; exact h (by rw [ha])
theorem cutV_to (xs : List V) {b : Nat} (h : b ≤ xs.length) : cutV xs none (some (b : Int)) = xs.take b := by
  unfold cutV
  rw [HT.sIx_none, HT.sIx_nat, Nat.min_eq_left h]
  show (xs.drop 0).take (b - 0) = _
  rw [List.drop_zero, Nat.sub_zero]
theorem cutV_from (xs : List V) {a : Nat} (h : a ≤ xs.length) : cutV xs (some (a : Int)) none = xs.drop a := by
  unfold cutV
  rw [HT.sIx_none, HT.sIx_nat, Nat.min_eq_left h]
  exact List.take_of_length_le (by rw [List.length_drop]; exact Nat.le_refl _)
/-- a plan at a -/
def PlanAt (H : Hp) (a : Addr) (nm : Str) (h b : Int) (rl : Addr) (rs : List Rw) : Prop := H a = some (.lst [.str nm, .int h, .int b, .ref rl]) ∧ RowsAt H rl rs ∧ rs.length ≤ 40 ∧ badOf rs = none ∧ ∀ c ∈ cs rs, okC c
theorem PlanAt.same {H H' : Hp} {a : Addr} {nm : Str} {h b : Int} {rl : Addr} {rs : List Rw} (p : PlanAt H a nm h b rl rs) (s : Same H H') : PlanAt H' a nm h b rl rs := ⟨s _ _ p.1, p.2.1.same s, p.2.2⟩
def lims : List Int := [8, 26, 26, 26, 26, 26, 26, 26, 26, 9, 9, 13, 4] ++ (List.replicate 40 [90, 9, 7, 144]).flatten
theorem lims_len : lims.length = 173 := by decide +kernel
theorem lims_pos : ∀ l ∈ lims, 0 < l ∧ l < 1000000 := by decide +kernel
theorem lims_at : ∀ k : Nat, k < 40 → lims[4 * k + 13]? = some 90 ∧ lims[4 * k + 14]? = some 9 ∧ lims[4 * k + 15]? = some 7 ∧ lims[4 * k + 16]? = some 144 := by decide +kernel
theorem lims_nm : ∀ k : Nat, k < 8 → lims[k + 1]? = some 26 := by decide +kernel
section
variable {P : Program} {w : World} {K : PySem.W.Frag} {mg : Str → Option Value} {base : Heap} {t1 : Tok}
def spPlan : Sp := fun vs H Q _ => ∃ (c : Int), vs = [.int c] ∧ ∀ H' a nm h b rl rs, Same H H' → PlanAt H' a nm h b rl rs → Q (.ref a) H'
abbrev nPl : List Str := ["_law_cell_here", "_law_row_here", "_law_name", "_law_k", "_law_many", "_law_left", "_law_rows", "_law_at"]
theorem scPlan : FnScope nPl ["_law_cell_here"] (defScope sPlan) := ⟨rfl, rfl, rfl, by decide +kernel, rfl, by decide +kernel, by decide +kernel⟩
theorem ok_plan {f f_row f_signs f_outline : Addr} {fd fd_row fd_signs fd_outline : FuncData} (B : Blt mg) (F : Fun K "_law_plan" "_law_plan" sPlan f fd)
    (F_row : Fun K "_law_row" "_law_row" sRow f_row fd_row) (b_row : Binds K fd_row ["_law_cell_here", "_law_limits"] []) (g_row : mg "_law_row" = some (.ref f_row))
    (F_signs : Fun K "_law_signs" "_law_signs" sSigns f_signs fd_signs) (b_signs : Binds K fd_signs [] []) (g_signs : mg "_law_signs" = some (.ref f_signs))
    (F_outline : Fun K "_law_outline" "_law_outline" sOutline f_outline fd_outline) (b_outline : Binds K fd_outline ["_law_many", "_law_pick"] []) (g_outline : mg "_law_outline" = some (.ref f_outline)) :
    FnOk P w K mg base CX0 2 f fd ["_law_cell_here"] spPlan := by
  have G_row : FnOk P w K mg base CX0 1 f_row fd_row ["_law_cell_here", "_law_limits"] (spRow K) := ok_row B F_row
  have G_signs : FnOk P w K mg base CX0 1 f_signs fd_signs [] spSigns := ok_signs F_signs
  have G_outline : FnOk P w K mg base CX0 1 f_outline fd_outline ["_law_many", "_law_pick"] spOutline := ok_outline B F_outline
  refine F.ok scPlan (fun vs H Q E h => ?_) (fun cdv A0 outer s H vs Q E hr h => ?_)
  · obtain ⟨c, rfl, _⟩ := h; rfl
  · obtain ⟨c, rfl, q⟩ := h
    have hr1 : Room 1 _ := hr
    refine ⟨_, (pss_cons (ps_set (i := 1) scPlan.nd rfl (.inr rfl) (pe_call G_row hr1 (by rfl) g_row F_row.kp b_row .nil pass0 (pa_cons (pv 0) (pa_cons (pe_op op_cat (pe_lst (pa_cons pe_int (pa_cons pe_int (pa_cons pe_int (pa_cons pe_int (pa_cons pe_int (pa_cons pe_int (pa_cons pe_int (pa_cons pe_int (pa_cons pe_int (pa_cons pe_int (pa_cons pe_int (pa_cons pe_int (pa_cons pe_int pa_nil)))))))))))))) (pe_op op_rep (pe_lst (pa_cons pe_int (pa_cons pe_int (pa_cons pe_int (pa_cons pe_int pa_nil))))) pe_int)) pa_nil))))
      (pss_cons (ps_set (i := 2) scPlan.nd rfl (.inl rfl) (pe_join pe_str (pe_lc (own := [("_law_k", 3)]) (g := gName 3) (tt := tYes) rfl scPlan.nd (pi_range1 (by rfl) B.range (pa_cons (pe_op op_add (pe_ix ix_list (pv 1) pe_int (fun _ _ => rfl)) pe_int) pa_nil)) (blkOk_by (N := nPl) (sc := defScope sPlan) (by decide +kernel)) (fun _ _ _ _ _ => (pg_name (i := 3) scPlan.nd rfl (.inl rfl))) (fun _ _ _ _ _ => pts_nil) (fun _ _ _ _ _ => (pe_ix ix_str pe_str (pe_ix (show IxR _ (rIxL K) from ix_list) (pv 1) (pe_op op_add (pv 3) pe_int) (fun _ _ => rfl)) (fun _ _ => rfl))))))
      (pss_cons (ps_set (i := 4) scPlan.nd rfl (.inl rfl) (pe_ix ix_list (pv 1) pe_int (fun _ _ => rfl)))
      (Evl.pss_cut (ps_if (pt_cmpR op_eq (pe_ix ix_list (pv 1) pe_int (fun _ _ => rfl)) pe_int (nomark _))
      (pss_one (ps_set (i := 4) scPlan.nd rfl (.inl rfl) (pe_op op_add (pv 4) pe_int)))
      pss_nil)
      (pss_cons (ps_par (i := 5) (j := 6) (by rfl) scPlan.nd rfl rfl (by decide) rfl rfl (pa_cons (pe_callTy (call_listS rfl) (by rfl) B.list (by decide +kernel) (pa_cons (pe_slice sl_str (pe_call0 G_signs hr1 (by rfl) g_signs F_signs.kp b_signs .nil pass0) (po_some pe_int) po_none) pa_nil)) (pa_cons (pe_lst pa_nil) pa_nil)) (by rfl))
      (pss_cons (ps_for (PassesOwn.never) rfl (pi_range1 (by rfl) B.range (pa_cons (pv 4) pa_nil)) (pg_name (i := 3) scPlan.nd rfl (.inl rfl))
      (pss_cons (ps_set (i := 7) scPlan.nd rfl (.inl rfl) (pe_op op_modN (pe_callTy call_int1 (by rfl) B.int (by decide +kernel) (pa_cons (pe_ix ix_list (pv 1) (pe_op op_add (pe_op op_mul pe_int (pv 3)) pe_int) (fun _ _ => rfl)) pa_nil)) (pe_callB call_len (by rfl) B.len PySem.boot_len (pa_cons (pv 5) pa_nil))))
       (pss_cons (ps_expr (pe_bm PySem.F.plainAttrs_list PySem.F.slot_list_append PySem.F.type_list_append mt_append (pv 6) (pa_cons (pe_tup (pa_cons (pe_ix ix_list (pv 5) (pv 7) (fun _ _ => rfl)) (pa_cons (pe_op op_add (pe_ix ix_list (pv 1) (pe_op op_add (pe_op op_mul pe_int (pv 3)) pe_int) (fun _ _ => rfl)) pe_int) (pa_cons (pe_call G_outline hr1 (by rfl) g_outline F_outline.kp b_outline .nil pass0 (pa_cons (pe_ix ix_list (pv 1) (pe_op op_add (pe_op op_mul pe_int (pv 3)) pe_int) (fun _ _ => rfl)) (pa_cons (pe_ix ix_list (pv 1) (pe_op op_add (pe_op op_mul pe_int (pv 3)) pe_int) (fun _ _ => rfl)) pa_nil))) pa_nil)))) pa_nil)))
       (pss_one (ps_set (i := 5) scPlan.nd rfl (.inl rfl) (pe_op op_cat (pe_slice sl_list (pv 5) po_none (po_some (pv 7))) (pe_slice sl_list (pv 5) (po_some (pe_op op_add (pv 7) pe_int)) po_none)))))))
      (pss_one (ps_ret (pe_lst (pa_cons (pv 2) (pa_cons (pe_op op_add (pe_ix ix_list (pv 1) pe_int (fun _ _ => rfl)) pe_int) (pa_cons (pe_op op_add (pe_ix ix_list (pv 1) pe_int (fun _ _ => rfl)) pe_int) (pa_cons (pv 6) pa_nil))))))))))))), ?_⟩
    have z13 : 13 ≤ sizeLine := by decide
    have z4 : 4 ≤ sizeLine := by decide
    refine ⟨.int c, rfl, z13, fun l1 n1 => ⟨z4, fun l2 n2 => ⟨l2, 40, _, rfl, rfl, upd_same, by decide, by decide, (by show 160 ≤ sizeLine; decide), fun l3 n3 => ?_⟩⟩⟩
    have s1 := same_new n1 (o := .lst [.int 8, .int 26, .int 26, .int 26, .int 26, .int 26, .int 26, .int 26, .int 26, .int 9, .int 9, .int 13, .int 4])
    have h1 : (upd H l1 (.lst [.int 8, .int 26, .int 26, .int 26, .int 26, .int 26, .int 26, .int 26, .int 26, .int 9, .int 9, .int 13, .int 4])) l1 = some (.lst [.int 8, .int 26, .int 26, .int 26, .int 26, .int 26, .int 26, .int 26, .int 26, .int 9, .int 9, .int 13, .int 4]) := upd_same
    generalize upd H l1 (.lst [.int 8, .int 26, .int 26, .int 26, .int 26, .int 26, .int 26, .int 26, .int 26, .int 9, .int 9, .int 13, .int 4]) = H1 at s1 h1 n2 n3 ⊢
    have s2 := same_new n2 (o := .lst [.int 90, .int 9, .int 7, .int 144])
    generalize upd H1 l2 (.lst [.int 90, .int 9, .int 7, .int 144]) = H2 at s2 n3 ⊢
    have s3 := same_new n3 (o := .lst (List.replicate (40 : Int).toNat [V.int 90, .int 9, .int 7, .int 144]).flatten)
    have h3 : (upd H2 l3 (.lst (List.replicate (40 : Int).toNat [V.int 90, .int 9, .int 7, .int 144]).flatten)) l3 = some (.lst (List.replicate (40 : Int).toNat [V.int 90, .int 9, .int 7, .int 144]).flatten) := upd_same
    generalize upd H2 l3 (.lst (List.replicate (40 : Int).toNat [V.int 90, .int 9, .int 7, .int 144]).flatten) = H3 at s3 h3 ⊢
    have sA : Same H H3 := s1.trans (s2.trans s3)
    refine ⟨l1, l3, _, _, rfl, rfl, s3 _ _ (s2 _ _ h1), h3, (by show 13 + 160 ≤ sizeLine; decide), fun l4 n4 => ?_⟩
    have s4 := sA.trans (same_new n4 (o := .lst (lims.map V.int)))
    have h4 : (upd H3 l4 (.lst (lims.map V.int))) l4 = some (.lst (lims.map V.int)) := upd_same
    refine ⟨c, l4, lims, rfl, SqL.of h4, by rw [lims_len]; decide, lims_pos, fun H4 R rs s5 nR hR hrow => ?_⟩
    have s6 := s4.trans s5
    clear s4 s5 h4 n4 sA h3 h1 s1 s2 s3 n1 n2 n3
    have hlen : rs.length = 173 := hrow.1.trans lims_len
    have at1 : ∀ {k : Nat} {g : Int}, rs[k]? = some g → (rs.map V.int)[k]? = some (.int g) := fun h => by rw [List.getElem?_map, h]; rfl
    obtain ⟨g0, a0, g00, g01⟩ := hrow.2 0 8 rfl
    obtain ⟨g9, a9, g90, g91⟩ := hrow.2 9 9 rfl
    obtain ⟨g10, a10, g100, g101⟩ := hrow.2 10 9 rfl
    obtain ⟨g11, a11, g110, g111⟩ := hrow.2 11 13 rfl
    obtain ⟨g12, a12, g120, g121⟩ := hrow.2 12 4 rfl
    -- the name
    refine ⟨⟨_, rfl⟩, .ref R, rfl, R, _, 0, .int g0, rfl, rfl, SqL.of hR, atI_nat (j := 0) (at1 a0), g0, 1, rfl, rfl, _, rfl, by omega, by omega, fun D hD => ?_⟩
    refine lc_range (lo := 0) (n := (g0 + 1).toNat) (fun i H' => ∃ cs : List Nat, H' D = some (.lst ((cs.map fun c => (⟨#[c]⟩ : Str)).map V.str)) ∧ cs.length = i ∧ Same H4 H')
      ⟨[], upd_same, rfl, same_new hD⟩ ?_ ?_
    · rintro i H' hi ⟨cs, hD', hl, sm⟩
      obtain ⟨g, ag, gg0, gg1⟩ := hrow.2 (i + 1) 26 (lims_nm i (by omega))
      obtain ⟨cch, hc, hcm⟩ := pick (z := letters) gg0 (by rw [letters_len]; exact gg1)
      have e0 : (0 + (i : Int)) + 1 = ((i + 1 : Nat) : Int) := by omega
      refine ⟨rfl, .ref R, rfl, .int (0 + (i : Int)), rfl, _, 1, rfl, rfl, R, _, _, .int g, rfl, rfl, SqL.of (sm _ _ hR), by rw [e0]; exact atI_nat (at1 ag), letters, g, cch, rfl, rfl, by rw [letters_len]; decide, hc, _, hD', ?_, cs ++ [cch], ?_, ?_, same_at sm hD⟩
      · rw [List.length_map, List.length_map]; exact small1000 (by omega)
      · rw [upd_same, List.map_append, List.map_append]; rfl
      · rw [List.length_append, hl]; rfl
    rintro H5 ⟨cs0, hD', hl, sm5⟩
    refine ⟨_, D, _, rfl, rfl, .inl (SqL.of hD'), ?_, ?_⟩
    · rw [sum_ones, show (Str.ofString "").length = 0 by decide +kernel, Nat.mul_zero]; omega
    generalize Txt.join (Str.ofString "") (cs0.map fun c => (⟨#[c]⟩ : Str)) = nm
    have hR5 := sm5 _ _ hR
    have s7 := s6.trans sm5
    clear s6 sm5 hD' hl nR hR hD
    refine ⟨.ref R, rfl, R, _, 11, .int g11, rfl, rfl, SqL.of hR5, atI_nat (j := 11) (at1 a11), ?_⟩
    refine ⟨fun σ H' => ∃ (y3 : Option V) (m : Int), σ = [some (.int c), some (.ref R), some (.str nm), y3, some (.int m), none, none, none] ∧ H' = H5 ∧ 0 ≤ m ∧ m ≤ 40, ?_, ?_⟩
    · refine ⟨.ref R, rfl, R, _, 12, .int g12, rfl, rfl, SqL.of hR5, atI_nat (j := 12) (at1 a12), rfl, _, rfl, ite2 (fun _ => ?_) (fun _ => ⟨_, g11, rfl, rfl, by omega, by omega⟩)⟩
      exact ⟨.int g11, rfl, g11, 28, rfl, rfl, _, g11 + 28, rfl, rfl, by omega, by omega⟩
    rintro σ H' ⟨y3, m, rfl, rfl, hm0, hm1⟩
    have hcut : tl (cutS signs (some 1) none) = left0 := cut_from signs 1
    have hcl : (cutS signs (some 1) none).length ≤ 1000 := by rw [← tl_len, hcut, left_len]; decide
    refine ⟨rfl, 1, rfl, signs, rfl, by rw [signs_len]; decide, _, rfl, hcl, fun lf nlf => ?_⟩
    rw [hcut]
    have s8 := same_new nlf (o := .lst (left0.map fun c => V.str (sg c)))
    have hlf : (upd H' lf (.lst (left0.map fun c => V.str (sg c)))) lf = some (.lst (left0.map fun c => V.str (sg c))) := upd_same
    generalize upd H' lf (.lst (left0.map fun c => V.str (sg c))) = H6 at s8 hlf ⊢
    refine ⟨Nat.zero_le _, fun rp nrp => ⟨_, _, rfl, ?_⟩⟩
    have s9 := same_new nrp (o := .lst [])
    have hrp : (upd H6 rp (.lst [])) rp = some (.lst (rv [])) := upd_same
    have hlf2 := s9 _ _ hlf
    have hR6 := s9 _ _ (s8 _ _ hR5)
    have s10 := s7.trans (s8.trans s9)
    have nrpH : H rp = none := by
      cases e : H rp with
      | none => rfl
      | some o => have := s8 _ _ (s7 _ _ e); rw [nrp] at this; cases this
    generalize upd H6 rp (.lst []) = H7 at s10 hrp hlf2 hR6 ⊢
    clear s7 s8 s9 hlf hR5 nlf nrp
    refine ⟨.int m, rfl, m, rfl, by omega, by omega, for_range (lo := 0) (n := m.toNat) (fun i σ H' => ∃ (y3 y7 : Option V) (lf : Addr) (L : List Nat) (ra : List Rw), σ = [some (.int c), some (.ref R), some (.str nm), y3, some (.int m), some (.ref lf), some (.ref rp), y7] ∧ Same H H' ∧ H' R = some (.lst (rs.map V.int)) ∧
      H' lf = some (.lst (L.map fun c => V.str (sg c))) ∧ L.length + i = 90 ∧ RowsAt H' rp ra ∧ ra.length = i ∧ (cs ra ++ L).Nodup ∧ 32 ∉ cs ra ∧ 32 ∉ L ∧ (∀ c ∈ cs ra, okC c) ∧ ∀ c ∈ L, okC c) ⟨_, none, lf, left0, [], rfl, s10, hR6, hlf2, left_len, ⟨hrp, (fun r hr => nomatch hr)⟩, rfl, left_nd, (fun h => nomatch h), left_no, (fun c h => nomatch h), left_ok⟩ ?_ ?_⟩
    · rintro i σ H' hi ⟨y3, y7, lf, L, ra, rfl, sm, hR, hlf, hL, hra, hl, hnd, h32a, h32l, hoa, hol⟩
      have e0 : (0 : Int) + (i : Int) = (i : Int) := by omega
      rw [e0]
      have hi40 : i < 40 := by omega
      obtain ⟨q13, q14, q15, q16⟩ := lims_at i hi40
      obtain ⟨b13, c13, d13, d13'⟩ := hrow.2 _ _ q13
      obtain ⟨b14, c14, d14, d14'⟩ := hrow.2 _ _ q14
      obtain ⟨b15, c15, d15, d15'⟩ := hrow.2 _ _ q15
      obtain ⟨b16, c16, d16, d16'⟩ := hrow.2 _ _ q16
      have ix : ∀ {j : Nat} {g : Int}, rs[4 * i + j]? = some g → atI (rs.map V.int) (4 * (i : Int) + (j : Int)) = some (.int g) := fun {j g} h => by
        have e : (4 * (i : Int) + (j : Int)) = ((4 * i + j : Nat) : Int) := by omega
        rw [e]; exact atI_nat (at1 h)
      have hLl : (L.map fun c => V.str (sg c)).length = L.length := List.length_map _
      refine ⟨.ref R, rfl, .int (i : Int), rfl, 4, (i : Int), rfl, rfl, .inl ⟨by decide, by decide⟩, _, 13, rfl, rfl, R, _, _, .int b13, rfl, rfl, SqL.of hR, ix c13, .inl ⟨_, rfl, .ref lf, rfl, .ref lf, _, rfl, .inl ⟨_, SqL.of hlf, rfl⟩, b13, _, rfl, rfl, (by rw [hLl]; omega), ?_⟩⟩
      rw [hLl]
      have hat0 : 0 ≤ b13.fmod (L.length : Int) := Int.fmod_nonneg_of_pos _ (by omega)
      have hat1 : b13.fmod (L.length : Int) < (L.length : Int) := Int.fmod_lt_of_pos _ (by omega)
      obtain ⟨j, hj⟩ : ∃ j : Nat, b13.fmod (L.length : Int) = (j : Int) := ⟨(b13.fmod (L.length : Int)).toNat, by omega⟩
      rw [hj] at hat1
      show gName 7 (V.int (b13.fmod (L.length : Int))) _ _ _
      rw [hj]
      have hjl : j < L.length := by omega
      obtain ⟨ch, hch⟩ : ∃ ch, L[j]? = some ch := ⟨_, List.getElem?_eq_getElem hjl⟩
      have hchV : (L.map fun c => V.str (sg c))[j]? = some (.str (sg ch)) := by rw [List.getElem?_map, hch]; rfl
      refine ⟨.ref rp, rfl, .inl ⟨rfl, _, SqL.of hra.1⟩, .ref lf, rfl, .int (j : Int), rfl, lf, _, (j : Int), .str (sg ch), rfl, rfl, SqL.of hlf, atI_nat hchV, ?_⟩
      refine ⟨.ref R, rfl, .int (i : Int), rfl, 4, (i : Int), rfl, rfl, .inl ⟨by decide, by decide⟩, _, 14, rfl, rfl, R, _, _, .int b14, rfl, rfl, SqL.of hR, ix c14, b14, 1, rfl, rfl, ?_⟩
      refine ⟨.ref R, rfl, .int (i : Int), rfl, 4, (i : Int), rfl, rfl, .inl ⟨by decide, by decide⟩, _, 15, rfl, rfl, R, _, _, .int b15, rfl, rfl, SqL.of hR, ix c15, ?_⟩
      refine ⟨.ref R, rfl, .int (i : Int), rfl, 4, (i : Int), rfl, rfl, .inl ⟨by decide, by decide⟩, _, 16, rfl, rfl, R, _, _, .int b16, rfl, rfl, SqL.of hR, ix c16, ?_⟩
      refine ⟨b15, b16, rfl, d15, by omega, fun H2 o s2 ho => ⟨by show 3 ≤ sizeLine; decide, fun T nT => ?_⟩⟩
      have s3 := same_new nT (o := .tup [.str (sg ch), .int (b14 + 1), .ref o])
      have hT : (upd H2 T (.tup [.str (sg ch), .int (b14 + 1), .ref o])) T = some (.tup [.str (sg ch), .int (b14 + 1), .ref o]) := upd_same
      have hoT := ho.kp (.of s3)
      generalize upd H2 T (.tup [.str (sg ch), .int (b14 + 1), .ref o]) = H3 at s3 hT hoT ⊢
      have sB := s2.trans s3
      have hrp3 := sB _ _ hra.1
      have hsz : (rv ra).length < sizeLine := by rw [rv_len]; exact small1000 (by omega)
      refine ⟨rp, _, _, rfl, rfl, hrp3, hsz, ?_⟩
      have kp : Kp H3 (upd H3 rp (.lst (rv ra ++ [.ref T]))) := Kp.but hrp3 (fun z => z) upd_but
      have sC := same_at (sm.trans sB) nrpH (x := .lst (rv ra ++ [.ref T]))
      have ne1 : R ≠ rp := ne_len hR hra.1 (by rw [List.length_map, rv_len]; omega)
      have ne2 : lf ≠ rp := ne_len hlf hra.1 (by rw [hLl, rv_len]; omega)
      have hR3 : upd H3 rp (.lst (rv ra ++ [.ref T])) R = some (.lst (rs.map V.int)) := by rw [upd_ne ne1]; exact sB _ _ hR
      have hlf3 : upd H3 rp (.lst (rv ra ++ [.ref T])) lf = some (.lst (L.map fun c => V.str (sg c))) := by rw [upd_ne ne2]; exact sB _ _ hlf
      have hra3 : RowsAt (upd H3 rp (.lst (rv ra ++ [.ref T]))) rp (ra ++ [⟨T, ch, b14 + 1, o⟩]) := by
        refine ⟨by rw [upd_same]; unfold rv; rw [List.map_append]; rfl, fun r hr => ?_⟩
        rcases List.mem_append.mp hr with hr | hr
        · exact ((hra.2 r hr).kp (.of sB)).kp kp
        · rw [List.mem_singleton.mp hr]
          exact ⟨kp.tup hT, hoT.kp kp, by show 0 ≤ b14 + 1; omega, by show b14 + 1 ≤ 1000; omega⟩
      generalize upd H3 rp (.lst (rv ra ++ [.ref T])) = H4 at kp sC hR3 hlf3 hra3 ⊢
      refine ⟨.ref lf, rfl, .int (j : Int), rfl, (j : Int), rfl, lf, _, rfl, SqL.of hlf3, fun p1 np1 => ?_⟩
      rw [cutV_to _ (by rw [hLl]; omega)]
      have t1 := same_new np1 (o := .lst ((L.map fun c => V.str (sg c)).take j))
      have k1 : (upd H4 p1 (.lst ((L.map fun c => V.str (sg c)).take j))) p1 = some (.lst ((L.map fun c => V.str (sg c)).take j)) := upd_same
      generalize upd H4 p1 (.lst ((L.map fun c => V.str (sg c)).take j)) = H5 at t1 k1 ⊢
      refine ⟨.ref lf, rfl, .int (j : Int), rfl, (j : Int), 1, rfl, rfl, ((j + 1 : Nat) : Int), (by rw [Int.natCast_add]; rfl), lf, _, rfl, SqL.of (t1 _ _ hlf3), fun p2 np2 => ?_⟩
      rw [cutV_from _ (by rw [hLl]; omega)]
      have t2 := same_new np2 (o := .lst ((L.map fun c => V.str (sg c)).drop (j + 1)))
      have k2 : (upd H5 p2 (.lst ((L.map fun c => V.str (sg c)).drop (j + 1)))) p2 = some (.lst ((L.map fun c => V.str (sg c)).drop (j + 1))) := upd_same
      generalize upd H5 p2 (.lst ((L.map fun c => V.str (sg c)).drop (j + 1))) = H6 at t2 k2 ⊢
      refine ⟨p1, p2, _, _, rfl, rfl, t2 _ _ k1, k2, ?_, fun p3 np3 => ?_⟩
      · rw [List.length_take, List.length_drop, hLl]; exact Nat.le_of_lt (small1000 (by omega))
      have t3 := (t1.trans t2).trans (same_new np3 (o := .lst ((L.map fun c => V.str (sg c)).take j ++ (L.map fun c => V.str (sg c)).drop (j + 1))))
      have hsplit : L = L.take j ++ ch :: L.drop (j + 1) := by
        obtain ⟨hq, e⟩ := List.getElem?_eq_some_iff.mp hch
        rw [← e, ← List.drop_eq_getElem_cons hq, List.take_append_drop]
      refine ⟨_, _, p3, L.take j ++ L.drop (j + 1), ra ++ [⟨T, ch, b14 + 1, o⟩], rfl, sC.trans t3, t3 _ _ hR3, ?_, ?_, hra3.same t3, ?_, ?_, ?_, ?_, ?_, ?_⟩
      · rw [upd_same, List.map_append, List.map_take, List.map_drop]
      · rw [List.length_append, List.length_take, List.length_drop]; omega
      · rw [List.length_append, hl]; rfl
      · have e1 : cs (ra ++ [⟨T, ch, b14 + 1, o⟩]) ++ (L.take j ++ L.drop (j + 1)) = (cs ra ++ [ch]) ++ (L.take j ++ L.drop (j + 1)) := by unfold cs; rw [List.map_append]; rfl
        rw [e1]
        rw [hsplit] at hnd
        refine (List.Perm.nodup_iff ?_).mp hnd
        rw [List.append_assoc]
        exact List.Perm.append_left _ List.perm_middle
      · intro hm
        unfold cs at hm; rw [List.map_append] at hm
        rcases List.mem_append.mp hm with hm | hm
        · exact h32a hm
        · have : (32 : Nat) = ch := by simpa using hm
          exact h32l (by rw [this]; exact List.mem_of_getElem? hch)
      · intro hm
        rcases List.mem_append.mp hm with hm | hm
        · exact h32l (List.mem_of_mem_take hm)
        · exact h32l (List.mem_of_mem_drop hm)
      · intro x hm
        unfold cs at hm; rw [List.map_append] at hm
        rcases List.mem_append.mp hm with hm | hm
        · exact hoa x hm
        · have : x = ch := by simpa using hm
          rw [this]; exact hol ch (List.mem_of_getElem? hch)
      · intro x hm
        rcases List.mem_append.mp hm with hm | hm
        · exact hol x (List.mem_of_mem_take hm)
        · exact hol x (List.mem_of_mem_drop hm)
    · rintro σ H' ⟨y3, y7, lf, L, ra, rfl, sm, hR, hlf, hL, hra, hl, hnd, h32a, h32l, hoa, hol⟩
      refine ⟨.str nm, rfl, .ref R, rfl, R, _, 9, .int g9, rfl, rfl, SqL.of hR, atI_nat (j := 9) (at1 a9), g9, 1, rfl, rfl, .ref R, rfl, R, _, 10, .int g10, rfl, rfl, SqL.of hR, atI_nat (j := 10) (at1 a10), g10, 1, rfl, rfl, .ref rp, rfl, by show 4 ≤ sizeLine; decide, fun a na => ?_⟩
      have sn := same_new na (o := .lst [.str nm, .int (g9 + 1), .int (g10 + 1), .ref rp])
      exact q _ a nm _ _ rp ra (sm.trans sn) ⟨upd_same, hra.same sn, by omega, badFrom_none _ [] (by rw [List.nil_append]; exact (List.nodup_append.mp hnd).1) h32a, hoa⟩
end
end K24

set_option maxRecDepth 100000
set_option maxHeartbeats 8000000
namespace K24
open PySem PySem.Spec PyProof.Rows L2
def limS : List Int := [21] ++ (List.replicate 20 [2, 91]).flatten
theorem limS_len : limS.length = 41 := by decide +kernel
theorem limS_pos : ∀ l ∈ limS, 0 < l ∧ l < 1000000 := by decide +kernel
theorem limS_at : ∀ k : Nat, k < 20 → limS[2 * k + 1]? = some 2 ∧ limS[2 * k + 2]? = some 91 := by decide +kernel
theorem rowOf_at {rs : List Rw} {i c : Nat} {r : Rw} (h : rs[i]? = some r) : rowOf (rs.drop i) c = if r.c = c then some r else rowOf (rs.drop (i + 1)) c := by
  obtain ⟨hl, e⟩ := List.getElem?_eq_some_iff.mp h
  rw [List.drop_eq_getElem_cons hl, e]
  unfold rowOf
  rw [List.find?_cons]
  by_cases hc : r.c = c
  · rw [if_pos hc, decide_eq_true hc]
  · rw [if_neg hc, decide_eq_false hc]
section
variable {P : Program} {w : World} {K : PySem.W.Frag} {mg : Str → Option Value} {base : Heap} {t1 : Tok}
/-! ### _law_string -/
def spString : Sp := fun vs H Q _ => ∃ (c : Int) (a : Addr) (rs : List Rw), vs = [.int c, .ref a] ∧ RowsAt H a rs ∧ rs.length ≤ 40 ∧ ∀ H' z, Same H H' → z.length ≤ 20 → Q (.str z) H'
theorem scString : FnScope ["_law_cell_here", "_law_rows", "_law_row_here", "_law_text", "_law_k", "_law_pick"] ["_law_cell_here", "_law_rows"] (defScope sString) := ⟨rfl, rfl, rfl, by decide +kernel, rfl, by decide +kernel, by decide +kernel⟩
theorem ok_string {f f_row f_signs : Addr} {fd fd_row fd_signs : FuncData} (B : Blt mg) (F : Fun K "_law_string" "_law_string" sString f fd)
    (F_row : Fun K "_law_row" "_law_row" sRow f_row fd_row) (b_row : Binds K fd_row ["_law_cell_here", "_law_limits"] []) (g_row : mg "_law_row" = some (.ref f_row))
    (F_signs : Fun K "_law_signs" "_law_signs" sSigns f_signs fd_signs) (b_signs : Binds K fd_signs [] []) (g_signs : mg "_law_signs" = some (.ref f_signs)) :
    FnOk P w K mg base CX0 2 f fd ["_law_cell_here", "_law_rows"] spString := by
  have G_row : FnOk P w K mg base CX0 1 f_row fd_row ["_law_cell_here", "_law_limits"] (spRow K) := ok_row B F_row
  have G_signs : FnOk P w K mg base CX0 1 f_signs fd_signs [] spSigns := ok_signs F_signs
  refine F.ok scString (fun vs H Q E h => ?_) (fun cdv A0 outer s H vs Q E hr h => ?_)
  · obtain ⟨c, a, rs, rfl, _⟩ := h; rfl
  · obtain ⟨c, a, ra, rfl, hra, hl40, q⟩ := h
    refine ⟨_, (pss_cons (ps_set (i := 2) scString.nd rfl (.inl rfl) (pe_call G_row hr (by rfl) g_row F_row.kp b_row .nil pass0 (pa_cons (pv 0) (pa_cons (pe_op op_cat (pe_lst (pa_cons pe_int pa_nil)) (pe_op op_rep (pe_lst (pa_cons pe_int (pa_cons pe_int pa_nil))) pe_int)) pa_nil))))
      (pss_cons (ps_set (i := 3) scString.nd rfl (.inl rfl) pe_str)
      (pss_cons (ps_for (PassesOwn.never) rfl (pi_range1 (by rfl) B.range (pa_cons (pe_ix ix_list (pv 2) pe_int (fun _ _ => rfl)) pa_nil)) (pg_name (i := 4) scString.nd rfl (.inl rfl))
      (pss_cons (ps_set (i := 5) scString.nd rfl (.inl rfl) (pe_ix ix_list (pv 2) (pe_op op_add (pe_op op_mul pe_int (pv 4)) pe_int) (fun _ _ => rfl)))
       (pss_one (ps_if (PW.pt (pw_and (pt_cmpR op_eq (pe_ix ix_list (pv 2) (pe_op op_add (pe_op op_mul pe_int (pv 4)) pe_int) (fun _ _ => rfl)) pe_int (nomark _)) (pw_and1 (pt_cmpR op_gt (pe_callB call_len (by rfl) B.len PySem.boot_len (pa_cons (pv 1) pa_nil)) pe_int (nomark _)))))
       (pss_one (ps_set (i := 3) scString.nd rfl (.inl rfl) (pe_op op_add_str (pv 3) (pe_ix ix_tup (pe_ix ix_list (pv 1) (pe_op op_modN (pe_callTy call_int1 (by rfl) B.int (by decide +kernel) (pa_cons (pv 5) pa_nil)) (pe_callB call_len (by rfl) B.len PySem.boot_len (pa_cons (pv 1) pa_nil))) (fun _ _ => rfl)) pe_int (fun _ _ => rfl)))))
       (pss_one (ps_set (i := 3) scString.nd rfl (.inl rfl) (pe_op op_add_str (pv 3) (pe_ix ix_str (pe_call0 G_signs hr (by rfl) g_signs F_signs.kp b_signs .nil pass0) (pv 5) (fun _ _ => rfl)))))))))
      (pss_one (ps_ret (pv 3)))))), ?_⟩
    have z1 : 1 ≤ sizeLine := by decide
    have z2 : 2 ≤ sizeLine := by decide
    refine ⟨.int c, rfl, z1, fun l1 n1 => ⟨z2, fun l2 n2 => ⟨l2, 20, _, rfl, rfl, upd_same, by decide, by decide, (by show 40 ≤ sizeLine; decide), fun l3 n3 => ?_⟩⟩⟩
    have s1 := same_new n1 (o := .lst [.int 21])
    have h1 : (upd H l1 (.lst [.int 21])) l1 = some (.lst [.int 21]) := upd_same
    generalize upd H l1 (.lst [.int 21]) = H1 at s1 h1 n2 n3 ⊢
    have s2 := same_new n2 (o := .lst [.int 2, .int 91])
    generalize upd H1 l2 (.lst [.int 2, .int 91]) = H2 at s2 n3 ⊢
    have s3 := same_new n3 (o := .lst (List.replicate (20 : Int).toNat [V.int 2, .int 91]).flatten)
    have h3 : (upd H2 l3 (.lst (List.replicate (20 : Int).toNat [V.int 2, .int 91]).flatten)) l3 = some (.lst (List.replicate (20 : Int).toNat [V.int 2, .int 91]).flatten) := upd_same
    generalize upd H2 l3 (.lst (List.replicate (20 : Int).toNat [V.int 2, .int 91]).flatten) = H3 at s3 h3 ⊢
    have sA : Same H H3 := s1.trans (s2.trans s3)
    refine ⟨l1, l3, _, _, rfl, rfl, s3 _ _ (s2 _ _ h1), h3, (by show 1 + 40 ≤ sizeLine; decide), fun l4 n4 => ?_⟩
    have s4 := sA.trans (same_new n4 (o := .lst (limS.map V.int)))
    have h4 : (upd H3 l4 (.lst (limS.map V.int))) l4 = some (.lst (limS.map V.int)) := upd_same
    refine ⟨c, l4, limS, rfl, SqL.of h4, by rw [limS_len]; decide, limS_pos, fun H4 R rs s5 nR hR hrow => ?_⟩
    have s6 := s4.trans s5
    clear s4 s5 h4 n4 sA h3 h1 s1 s2 s3 n1 n2 n3
    have at1 : ∀ {k : Nat} {g : Int}, rs[k]? = some g → (rs.map V.int)[k]? = some (.int g) := fun h => by rw [List.getElem?_map, h]; rfl
    obtain ⟨g0, a0, g00, g01⟩ := hrow.2 0 21 rfl
    have hra4 := hra.same s6
    refine ⟨.ref R, rfl, R, _, 0, .int g0, rfl, rfl, SqL.of hR, atI_nat (j := 0) (at1 a0), g0, rfl, by omega, by omega, ?_⟩
    refine for_range (lo := 0) (n := g0.toNat) (fun i σ H' => ∃ (y4 y5 : Option V) (z : Str), σ = [some (.int c), some (.ref a), some (.ref R), some (.str z), y4, y5] ∧ H' = H4 ∧ z.length ≤ i) ⟨none, none, _, rfl, rfl, by decide +kernel⟩ ?_ ?_
    · rintro i σ H' hi ⟨y4, y5, z, rfl, rfl, hz⟩
      have e0 : (0 : Int) + (i : Int) = (i : Int) := by omega
      rw [e0]
      obtain ⟨q1, q2⟩ := limS_at i (by omega)
      obtain ⟨b1, c1, d1, d1'⟩ := hrow.2 _ _ q1
      obtain ⟨b2, c2, d2, d2'⟩ := hrow.2 _ _ q2
      have ix : ∀ {j : Nat} {g : Int}, rs[2 * i + j]? = some g → atI (rs.map V.int) (2 * (i : Int) + (j : Int)) = some (.int g) := fun {j g} h => by
        have e : (2 * (i : Int) + (j : Int)) = ((2 * i + j : Nat) : Int) := by omega
        rw [e]; exact atI_nat (at1 h)
      refine ⟨.ref R, rfl, .int (i : Int), rfl, 2, (i : Int), rfl, rfl, .inl ⟨by decide, by decide⟩, _, 2, rfl, rfl, R, _, _, .int b2, rfl, rfl, SqL.of hR, ix c2, ?_⟩
      have other : ∃ c', atI signs.cps.toList b2 = some c' ∧ c' ∈ tl signs := pick d2 (by rw [signs_len]; exact d2')
      obtain ⟨c', hc', _⟩ := other
      have hz2 : ∀ x : Nat, (z ++ sg x).length ≤ i + 1 := fun x => by rw [len_add]; show z.length + 1 ≤ i + 1; omega
      have zl : ∀ x : Nat, z.length + (sg x).length ≤ sizeLine := fun x => Nat.le_trans (show z.length + 1 ≤ 1000 by omega) (by decide)
      refine ⟨.ref R, rfl, .int (i : Int), rfl, 2, (i : Int), rfl, rfl, .inl ⟨by decide, by decide⟩, _, 1, rfl, rfl, R, _, _, .int b1, rfl, rfl, SqL.of hR, ix c1, rfl, _, rfl, ?_⟩
      refine ite2 (fun _ => ?_) (fun _ => ?_)
      · refine ⟨.ref a, rfl, .ref a, _, rfl, .inl ⟨_, SqL.of hra4.1, rfl⟩, _, 0, rfl, rfl, _, rfl, ?_⟩
        rw [rv_len]
        refine ite2 (fun hpos => ?_) (fun _ => ?_)
        · have hp : 0 < ra.length := by have := of_decide_eq_true hpos; omega
          have m0 : 0 ≤ b2.fmod (ra.length : Int) := Int.fmod_nonneg_of_pos _ (by omega)
          have m1 : b2.fmod (ra.length : Int) < (ra.length : Int) := Int.fmod_lt_of_pos _ (by omega)
          obtain ⟨j, hj⟩ : ∃ j : Nat, b2.fmod (ra.length : Int) = (j : Int) := ⟨(b2.fmod (ra.length : Int)).toNat, by omega⟩
          obtain ⟨r, hr'⟩ : ∃ r, ra[j]? = some r := ⟨_, List.getElem?_eq_getElem (by omega)⟩
          have hrT := hra4.2 r (List.mem_of_getElem? hr')
          refine ⟨.str z, rfl, .ref a, rfl, .int b2, rfl, .inl ⟨_, rfl, .ref a, rfl, .ref a, _, rfl, .inl ⟨_, SqL.of hra4.1, rfl⟩, b2, _, rfl, rfl, (by rw [rv_len]; omega), ?_⟩⟩
          refine ⟨a, _, (j : Int), .ref r.t, rfl, (by rw [rv_len]; show V.int (b2.fmod (ra.length : Int)) = _; rw [hj]), SqL.of hra4.1, atI_nat (rv_at hr'), r.t, _, 0, .str (sg r.c), rfl, rfl, SqT.of hrT.1, rfl, z, sg r.c, rfl, rfl, zl _, ?_⟩
          exact ⟨_, _, _, rfl, rfl, hz2 _⟩
        · refine ⟨.str z, rfl, rfl, .int b2, rfl, signs, b2, c', rfl, rfl, by rw [signs_len]; decide, hc', z, sg c', rfl, rfl, zl _, ?_⟩
          exact ⟨_, _, _, rfl, rfl, hz2 _⟩
      · refine ⟨.str z, rfl, rfl, .int b2, rfl, signs, b2, c', rfl, rfl, by rw [signs_len]; decide, hc', z, sg c', rfl, rfl, zl _, ?_⟩
        exact ⟨_, _, _, rfl, rfl, hz2 _⟩
    · rintro σ H' ⟨y4, y5, z, rfl, rfl, hz⟩
      exact ⟨.str z, rfl, q _ z s6 (by omega)⟩
/-! ### _law_advance, _law_drawn, _law_width -/
def spLAdv : Sp := fun vs H Q _ => ∃ (a : Addr) (c : Nat) (nm : Str) (h b : Int) (rl : Addr) (rs : List Rw), vs = [.ref a, .str (sg c)] ∧ PlanAt H a nm h b rl rs ∧ Q (.int (advOf b rs c)) H
theorem scLAdv : FnScope ["_law_plan_here", "_law_sign", "_law_item"] ["_law_plan_here", "_law_sign"] (defScope sAdvance) := ⟨rfl, rfl, rfl, by decide +kernel, rfl, by decide +kernel, by decide +kernel⟩
theorem ok_ladv {f : Addr} {fd : FuncData} (F : Fun K "_law_advance" "_law_advance" sAdvance f fd) : FnOk P w K mg base CX0 1 f fd ["_law_plan_here", "_law_sign"] spLAdv := by
  refine F.ok scLAdv (fun vs H Q E h => ?_) (fun cdv A0 outer s H vs Q E hr h => ?_)
  · obtain ⟨a, c, nm, h, b, rl, rs, rfl, _⟩ := h; rfl
  · obtain ⟨a, c, nm, h, b, rl, rs, rfl, ⟨ha, hrl, hlen, _⟩, q⟩ := h
    refine ⟨_, (pss_cons (ps_if (pt_cmpR op_eq (pv 1) pe_str (nomark _))
      (pss_one (ps_ret (pe_ix ix_list (pv 0) pe_int (fun _ _ => rfl))))
      pss_nil)
      (pss_cons (ps_for (PassesOwn.never) rfl (pi_list (pe_ix ix_list (pv 0) pe_int (fun _ _ => rfl))) (pg_name (i := 2) scLAdv.nd rfl (.inl rfl))
      (pss_one (ps_if (pt_cmpR op_eq (pe_ix ix_tup (pv 2) pe_int (fun _ _ => rfl)) (pv 1) (nomark _))
       (pss_one (ps_ret (pe_ix ix_tup (pv 2) pe_int (fun _ _ => rfl))))
       pss_nil)))
      (pss_one (ps_ret pe_int)))), ?_⟩
    refine ⟨.str (sg c), rfl, rfl, _, rfl, ?_⟩
    rw [eSp, eqS]
    refine ite2 (fun hc => ?_) (fun hc => ?_)
    · unfold advOf at q; rw [if_pos (of_decide_eq_true hc)] at q
      exact ⟨.ref a, rfl, a, _, 2, .int b, rfl, rfl, SqL.of ha, rfl, q⟩
    have hc2 : ¬ c = 32 := fun e => hc (decide_eq_true e)
    unfold advOf at q; rw [if_neg hc2] at q
    refine ⟨.ref a, rfl, a, _, 3, .ref rl, rfl, rfl, SqL.of ha, rfl, rl, rfl, ⟨_, SqL.of hrl.1⟩, for_list (K := K) (a := rl) (xs := rv rs) (fun i σ H' => ∃ y2 : Option V, σ = [some (.ref a), some (.str (sg c)), y2] ∧ H' = H ∧ rowOf rs c = rowOf (rs.drop i) c) ⟨none, rfl, rfl, rfl⟩ (fun i σ H' _ ⟨_, _, e, _⟩ => by rw [e]; exact SqL.of hrl.1) ?_ ?_⟩
    · rintro i x σ H' hi ⟨y2, rfl, rfl, hro⟩
      unfold rv at hi
      rw [List.getElem?_map] at hi
      cases en : rs[i]? with
      | none => rw [en] at hi; cases hi
      | some r =>
      rw [en] at hi; cases hi
      have hrT := hrl.2 r (List.mem_of_getElem? en)
      rw [rowOf_at en] at hro
      refine ⟨.ref r.t, rfl, r.t, _, 0, .str (sg r.c), rfl, rfl, SqT.of hrT.1, rfl, .str (sg c), rfl, rfl, _, rfl, ?_⟩
      rw [eqS]
      refine ite2 (fun h1 => ?_) (fun h1 => ?_)
      · rw [if_pos (of_decide_eq_true h1)] at hro
        rw [hro] at q
        exact ⟨.ref r.t, rfl, r.t, _, 1, .int r.n, rfl, rfl, SqT.of hrT.1, rfl, q⟩
      · rw [if_neg (fun z => h1 (decide_eq_true z))] at hro
        exact ⟨_, rfl, rfl, hro⟩
    · rintro σ H' ⟨y2, rfl, rfl, hro⟩
      rw [rv_len, List.drop_length] at hro
      rw [hro] at q
      exact q
def spDrawn : Sp := fun vs H Q _ => ∃ (a : Addr) (c : Nat) (nm : Str) (h b : Int) (rl : Addr) (rs : List Rw), vs = [.ref a, .str (sg c)] ∧ PlanAt H a nm h b rl rs ∧ (rowOf rs c = none → ∀ H' t, Same H H' → H' t = some (.tup []) → Q (.ref t) H') ∧ (∀ r, rowOf rs c = some r → Q (.ref r.o) H)
theorem scDrawn : FnScope ["_law_plan_here", "_law_sign", "_law_item"] ["_law_plan_here", "_law_sign"] (defScope sDrawn) := ⟨rfl, rfl, rfl, by decide +kernel, rfl, by decide +kernel, by decide +kernel⟩
theorem ok_drawn {f : Addr} {fd : FuncData} (F : Fun K "_law_drawn" "_law_drawn" sDrawn f fd) : FnOk P w K mg base CX0 1 f fd ["_law_plan_here", "_law_sign"] spDrawn := by
  refine F.ok scDrawn (fun vs H Q E h => ?_) (fun cdv A0 outer s H vs Q E hr h => ?_)
  · obtain ⟨a, c, nm, h, b, rl, rs, rfl, _⟩ := h; rfl
  · obtain ⟨a, c, nm, h, b, rl, rs, rfl, ⟨ha, hrl, hlen, _⟩, q1, q2⟩ := h
    refine ⟨_, (pss_cons (ps_for (PassesOwn.never) rfl (pi_list (pe_ix ix_list (pv 0) pe_int (fun _ _ => rfl))) (pg_name (i := 2) scDrawn.nd rfl (.inl rfl))
      (pss_one (ps_if (pt_cmpR op_eq (pe_ix ix_tup (pv 2) pe_int (fun _ _ => rfl)) (pv 1) (nomark _))
       (pss_one (ps_ret (pe_ix ix_tup (pv 2) pe_int (fun _ _ => rfl))))
       pss_nil)))
      (pss_one (ps_ret (pe_tup pa_nil)))), ?_⟩
    refine ⟨.ref a, rfl, a, _, 3, .ref rl, rfl, rfl, SqL.of ha, rfl, rl, rfl, ⟨_, SqL.of hrl.1⟩, for_list (K := K) (a := rl) (xs := rv rs) (fun i σ H' => ∃ y2 : Option V, σ = [some (.ref a), some (.str (sg c)), y2] ∧ H' = H ∧ rowOf rs c = rowOf (rs.drop i) c) ⟨none, rfl, rfl, rfl⟩ (fun i σ H' _ ⟨_, _, e, _⟩ => by rw [e]; exact SqL.of hrl.1) ?_ ?_⟩
    · rintro i x σ H' hi ⟨y2, rfl, rfl, hro⟩
      unfold rv at hi
      rw [List.getElem?_map] at hi
      cases en : rs[i]? with
      | none => rw [en] at hi; cases hi
      | some r =>
      rw [en] at hi; cases hi
      have hrT := hrl.2 r (List.mem_of_getElem? en)
      rw [rowOf_at en] at hro
      refine ⟨.ref r.t, rfl, r.t, _, 0, .str (sg r.c), rfl, rfl, SqT.of hrT.1, rfl, .str (sg c), rfl, rfl, _, rfl, ?_⟩
      rw [eqS]
      refine ite2 (fun h1 => ?_) (fun h1 => ?_)
      · rw [if_pos (of_decide_eq_true h1)] at hro
        exact ⟨.ref r.t, rfl, r.t, _, 2, .ref r.o, rfl, rfl, SqT.of hrT.1, rfl, q2 r hro⟩
      · rw [if_neg (fun z => h1 (decide_eq_true z))] at hro
        exact ⟨_, rfl, rfl, hro⟩
    · rintro σ H' ⟨y2, rfl, rfl, hro⟩
      rw [rv_len, List.drop_length] at hro
      exact ⟨Nat.zero_le _, fun t nt => q1 hro _ t (same_new nt) upd_same⟩
abbrev nWi : List Str := ["_law_plan_here", "_law_text", "_law_scale", "_law_extra", "_law_sign"]
abbrev pWi : List Str := ["_law_plan_here", "_law_text", "_law_scale", "_law_extra"]
def spWidth : Sp := fun vs H Q _ => ∃ (a : Addr) (z nm : Str) (s w h b : Int) (rl : Addr) (rs : List Rw), vs = [.ref a, .str z, .int s, .int w] ∧ PlanAt H a nm h b rl rs ∧ z.length ≤ 1000 ∧ 0 ≤ s ∧ s ≤ 1000 ∧ ∀ H', Same H H' → Q (.int (widthOf b rs (tl z) s w)) H'
theorem scWidth : FnScope nWi pWi (defScope sWidth) := ⟨rfl, rfl, rfl, by decide +kernel, rfl, by decide +kernel, by decide +kernel⟩
theorem ok_width {f f_advance : Addr} {fd fd_advance : FuncData} (B : Blt mg) (F : Fun K "_law_width" "_law_width" sWidth f fd)
    (F_advance : Fun K "_law_advance" "_law_advance" sAdvance f_advance fd_advance) (b_advance : Binds K fd_advance ["_law_plan_here", "_law_sign"] []) (g_advance : mg "_law_advance" = some (.ref f_advance)) :
    FnOk P w K mg base CX0 2 f fd pWi spWidth := by
  have G_advance : FnOk P w K mg base CX0 1 f_advance fd_advance ["_law_plan_here", "_law_sign"] spLAdv := ok_ladv F_advance
  refine F.ok scWidth (fun vs H Q E h => ?_) (fun cdv A0 outer s H vs Q E hr h => ?_)
  · obtain ⟨a, z, nm, s, w, h, b, rl, rs, rfl, _⟩ := h; rfl
  · obtain ⟨a, z, nm, sz, wd, h, b, rl, rs, rfl, hp, hz, hs0, hs1, q⟩ := h
    refine ⟨_, (pss_one (ps_ret (pe_callB (cr_sum rfl) (by rfl) B.sum (by decide +kernel) (pa_cons (pe_lc (own := [("_law_sign", 4)]) (g := gName 4) (tt := tYes) rfl scWidth.nd (pi_str (pv 1)) (blkOk_by (N := nWi) (sc := defScope sWidth) (by decide +kernel)) (fun _ _ _ _ _ => (pg_name (i := 4) scWidth.nd rfl (.inl rfl))) (fun _ _ _ _ _ => pts_nil) (fun _ _ _ _ _ => (pe_op op_add (pe_op op_mul (pe_call G_advance hr (by rfl) g_advance F_advance.kp b_advance .nil pass0 (pa_cons (pv 0) (pa_cons (pv 4) pa_nil))) (pv 2)) (pv 3)))) pa_nil)))), ?_⟩
    refine ⟨.str z, rfl, z, rfl, fun D hD => ?_⟩
    refine lc_it walk_str (fun i H' => H' D = some (.lst ((((tl z).take i).map fun c => advOf b rs c * sz + wd).map V.int)) ∧ Same H H') ⟨upd_same, same_new hD⟩ (fun _ _ _ _ => trivial) ?_ ?_
    · rintro i v H1 H2 hi ⟨hD', sm⟩ ⟨rfl, c, hc, rfl⟩
      have hc' : (tl z)[i]? = some c := by simpa [tl] using hc
      have hi2 : i < z.length := hi
      refine ⟨rfl, .ref a, rfl, .str (sg c), rfl, a, c, nm, h, b, rl, rs, rfl, hp.same sm, ?_⟩
      refine ⟨_, rfl, _, sz, rfl, rfl, .inr ⟨by omega, by omega⟩, _, rfl, _, wd, rfl, rfl, ?_⟩
      refine ⟨_, hD', ?_, ?_, same_at sm hD⟩
      · rw [List.length_map, List.length_map, List.length_take]; exact small1000 (by omega)
      · rw [upd_same, ← take_mapI _ hc']
    · rintro H' ⟨hD', sm⟩
      have e : (tl z).take z.cps.size = tl z := List.take_of_length_le (by rw [tl_len]; exact Nat.le_refl _)
      rw [e] at hD'
      exact ⟨D, _, rfl, SqL.of hD', q H' sm⟩
end
end K24

set_option maxRecDepth 100000
set_option maxHeartbeats 8000000
namespace K24
open PySem PySem.Spec PyProof.Rows L2
abbrev cv (l : List Nat) : List V := l.map fun c => V.str (sg c)
theorem keys_rv (es : List Ent) : (kvE es).map (fun kv => kV kv.1) = cv (cs (es.map (·.1))) := by
  unfold kvE cv cs
  rw [List.map_map, List.map_map, List.map_map]; rfl
theorem inV_cv (c : Nat) (l : List Nat) : inV (.str (sg c)) (cv l) = decide (c ∈ l) := by
  induction l with
  | nil => rfl
  | cons x l ih =>
    show (eqV (.str (sg x)) (.str (sg c)) || inV (.str (sg c)) (cv l)) = _
    rw [ih]
    have e : eqV (.str (sg x)) (.str (sg c)) = decide (x = c) := by
      show (sg x == sg c) = _
      rw [Bool.eq_iff_iff, beq_iff_eq, decide_eq_true_iff]
      exact ⟨fun h => by have := congrArg tl h; simpa [tl] using this, fun h => by rw [h]⟩
    rw [e]
    by_cases h : x = c
    · rw [decide_eq_true h, Bool.true_or]; symm; exact decide_eq_true (by rw [h]; exact List.mem_cons_self)
    · rw [decide_eq_false h, Bool.false_or]
      exact decide_eq_decide.mpr ⟨fun m => List.mem_cons_of_mem _ m, fun m => (List.mem_cons.mp m).resolve_left fun e => h e.symm⟩
theorem flat_cv (l : List Nat) : (cv l).all flatV = true := by
  rw [List.all_eq_true]
  intro v hv
  obtain ⟨c, _, rfl⟩ := List.mem_map.mp hv
  rfl
theorem same_cv {H : Hp} {a b : Addr} {l : List Nat} (ha : H a = some (.lst (cv l))) (hb : H b = some (.lst (cv l))) (hl : l.length ≤ 1000) : SameV 3 H (.ref a) (.ref b) :=
  .inr ⟨a, b, _, _, rfl, rfl, .inl ⟨ha, hb⟩, rfl, by rw [List.length_map]; exact hl, fun i u v hu hv => by
    rw [hu] at hv; cases hv
    obtain ⟨c, _, rfl⟩ := List.mem_map.mp (List.mem_of_getElem? hu)
    exact sv_str _ _ 2⟩
section
variable {P : Program} {w : World} {K : PySem.W.Frag} {mg : Str → Option Value} {base : Heap} {t1 : Tok}
def spRight (C : Addr) : Sp := fun vs H Q _ => ∃ (p a : Addr) (z nm : Str) (s w h b : Int) (rl : Addr) (rs : List Rw), vs = [.ref p, .ref a, .str z, .int s, .int w] ∧ FA C H p nm h b rs ∧ PlanAt H a nm h b rl rs ∧ z.length ≤ 1000 ∧ 0 ≤ s ∧ s ≤ 1000 ∧ ∀ H', Same H H' → Q (.bl true) H'
abbrev nRi : List Str := ["_law_face", "_law_plan_here", "_law_text", "_law_scale", "_law_extra", "_law_signs_here", "_law_sign", "_law_due", "_law_item"]
abbrev pRi : List Str := ["_law_face", "_law_plan_here", "_law_text", "_law_scale", "_law_extra"]
theorem scRight : FnScope nRi pRi (defScope sRight) := ⟨rfl, rfl, rfl, by decide +kernel, rfl, by decide +kernel, by decide +kernel⟩
/-- what is known of the class and of the law's defs -/
structure Ops (P : Program) (w : World) (K : PySem.W.Frag) (mg : Str → Option Value) (base : Heap) (C : Addr) (fi fl fh fa fo fc fs fg fla fd fw : Addr) (di dl dh da do' dc ds dg dla dd dw : FuncData) : Prop where
  IC : C8.InsC K C
  m_iter : PySem.W.findIn K (.ref C) "__iter__" = some (some (.ref fi)) ∧ PySem.W.isFn K (.ref fi) = true
  G_iter : RO.FnN P w K mg base CX0 1 fi di ["self"] (RK.spItK C "_rows")
  b_iter : Binds K di ["self"] []
  m_len : PySem.W.findIn K (.ref C) "__len__" = some (some (.ref fl)) ∧ PySem.W.typeIn K (.ref fl) = some (.type "function")
  G_len : FnOk P w K mg base CX0 1 fl dl ["self"] (spLen C)
  b_len : Binds K dl ["self"] []
  m_has : PySem.W.findIn K (.ref C) "__contains__" = some (some (.ref fh)) ∧ PySem.W.typeIn K (.ref fh) = some (.type "function")
  G_has : FnOk P w K mg base CX0 1 fh dh ["self", "sign"] (spHas C)
  b_has : Binds K dh ["self", "sign"] []
  m_advance : Meth K C "advance" fa
  G_advance : FnOk P w K mg base CX0 1 fa da ["self", "sign"] (spAdv C)
  b_advance : Binds K da ["self", "sign"] []
  m_outline : Meth K C "outline" fo
  G_outline : FnOk P w K mg base CX0 1 fo do' ["self", "sign"] (spOut C)
  b_outline : Binds K do' ["self", "sign"] []
  m_call : StX.CallO K C fc
  F_call : CallD K fc dc
  G_call : FnOk P w K mg base CX0 2 fc dc pCa (spCall C)
  F_same : Fun K "_law_same" "_law_same" sSame fs ds
  b_same : Binds K ds ["_law_one", "_law_two"] []
  g_same : mg "_law_same" = some (.ref fs)
  F_signs : Fun K "_law_signs" "_law_signs" sSigns fg dg
  b_signs : Binds K dg [] []
  g_signs : mg "_law_signs" = some (.ref fg)
  F_ladv : Fun K "_law_advance" "_law_advance" sAdvance fla dla
  b_ladv : Binds K dla ["_law_plan_here", "_law_sign"] []
  g_ladv : mg "_law_advance" = some (.ref fla)
  F_drawn : Fun K "_law_drawn" "_law_drawn" sDrawn fd dd
  b_drawn : Binds K dd ["_law_plan_here", "_law_sign"] []
  g_drawn : mg "_law_drawn" = some (.ref fd)
  F_width : Fun K "_law_width" "_law_width" sWidth fw dw
  b_width : Binds K dw pWi []
  g_width : mg "_law_width" = some (.ref fw)
theorem ok_right {C f fi fl fh fa fo fc fs fg fla fd fw : Addr} {dt di dl dh da do' dc ds dg dla dd dw : FuncData} (B : Blt mg) (T : Fce K mg C) (F : Fun K "_law_right" "_law_right" sRight f dt)
    (O : Ops P w K mg base C fi fl fh fa fo fc fs fg fla fd fw di dl dh da do' dc ds dg dla dd dw) : FnOk P w K mg base CX0 5 f dt pRi (spRight C) := by
  obtain ⟨IC, m_iter, G_iter, b_iter, m_len, G_len, b_len, m_has, G_has, b_has, m_advance, G_advance, b_advance, m_outline, G_outline, b_outline, m_call, F_call, G_call, F_same, b_same, g_same, F_signs, b_signs, g_signs, F_ladv, b_ladv, g_ladv, F_drawn, b_drawn, g_drawn, F_width, b_width, g_width⟩ := O
  have G_same := ok_same (P := P) (w := w) (base := base) B F_same b_same g_same 3
  have G_signs : FnOk P w K mg base CX0 1 fg dg [] spSigns := ok_signs F_signs
  have G_ladv : FnOk P w K mg base CX0 1 fla dla ["_law_plan_here", "_law_sign"] spLAdv := ok_ladv F_ladv
  have G_drawn : FnOk P w K mg base CX0 1 fd dd ["_law_plan_here", "_law_sign"] spDrawn := ok_drawn F_drawn
  have G_width : FnOk P w K mg base CX0 2 fw dw pWi spWidth := ok_width B F_width F_ladv b_ladv g_ladv
  obtain ⟨x1, v1, b1⟩ := call_b1 F_call
  obtain ⟨x3, v3, b3⟩ := call_b3 F_call
  obtain ⟨_, ks⟩ := call_ks F_call
  obtain ⟨_, kw⟩ := call_kw F_call
  obtain ⟨_, k3⟩ := call_k3 F_call
  obtain ⟨_, ksw⟩ := call_ksw F_call
  obtain ⟨_, kws⟩ := call_kws F_call
  refine F.ok scRight (fun vs H Q E h => ?_) (fun cdv A0 outer s H vs Q E hr h => ?_)
  · obtain ⟨p, a, z, nm, s, w, h, b, rl, rs, rfl, _⟩ := h; rfl
  · obtain ⟨p, a, z, nm, sz, wd, h, b, rl, rs, rfl, hf, hp, hz, hs0, hs1, q⟩ := h
    have hr1 : Room 1 _ := hr.mono (by decide)
    have hr2 : Room 2 _ := hr.mono (by decide)
    refine ⟨_, (pss_cons (ps_setLc (i := 5) (own := [("_law_item", 8)]) (g := gName 8) (tt := tYes) rfl scRight.nd rfl rfl (sw_true rfl rfl rfl (by decide +kernel)) (pi_list (pe_ix ix_list (pv 1) pe_int (fun _ _ => rfl))) (blkOk_by (N := nRi) (sc := defScope sRight) (by decide +kernel)) (fun _ _ _ _ _ => (pg_name (i := 8) scRight.nd rfl (.inl rfl))) (fun _ _ _ _ _ => pts_nil) (fun _ _ _ _ _ => (pe_ix (show IxR _ (rIxT K) from ix_tup) (pv 8) pe_int (fun _ _ => rfl))))
      (pss_cons (ps_if (PW.pt (pw_or (pt_not (pt_val (pe_callB (C8.call_isC IC) (by rfl) B.isi (by decide +kernel) (pa_cons (pv 0) (pa_cons (pe_glob (v := .ref C) (by rfl) T.mgC rfl) pa_nil))))) (pw_or (pt_not (pt_val (pe_call G_same hr (by rfl) g_same F_same.kp b_same .nil pass0 (pa_cons (pe_fld (pv 0) rfl) (pa_cons (pe_ix ix_list (pv 1) pe_int (fun _ _ => rfl)) pa_nil))))) (pw_or1 (pt_not (pt_val (pe_call G_same hr (by rfl) g_same F_same.kp b_same .nil pass0 (pa_cons (pe_fld (pv 0) rfl) (pa_cons (pe_ix ix_list (pv 1) pe_int (fun _ _ => rfl)) pa_nil)))))))))
      (pss_one (ps_ret pe_bl))
      pss_nil)
      (pss_cons (ps_if (PW.pt (pw_or (pt_not (pt_val (pe_call G_same hr (by rfl) g_same F_same.kp b_same .nil pass0 (pa_cons (pe_fld (pv 0) rfl) (pa_cons (pe_ix ix_list (pv 1) pe_int (fun _ _ => rfl)) pa_nil))))) (pw_or (pt_cmpR op_ne (pe_callB (RO.call_lenOwn m_len.1 m_len.2 G_len b_len hr2) (by rfl) B.len PySem.boot_len (pa_cons (pv 0) pa_nil)) (pe_callB call_len (by rfl) B.len PySem.boot_len (pa_cons (pv 5) pa_nil)) (nomark _)) (pw_or1 (pt_not (pt_val (pe_call G_same hr (by rfl) g_same F_same.kp b_same .nil pass0 (pa_cons (pe_callTy (RK.call_listOwnK ⟨m_iter.1, m_iter.2, G_iter, b_iter⟩ ⟨m_len.1, m_len.2, G_len, b_len⟩ rfl hr) (by rfl) B.list (by decide +kernel) (pa_cons (pv 0) pa_nil)) (pa_cons (pv 5) pa_nil)))))))))
      (pss_one (ps_ret pe_bl))
      pss_nil)
      (pss_cons (ps_for (PassesOwn.never) rfl (pi_str (pe_call0 G_signs hr1 (by rfl) g_signs F_signs.kp b_signs .nil pass0)) (pg_name (i := 6) scRight.nd rfl (.inl rfl))
      (pss_cons (ps_if (PW.pt (pw_or (pt_cmpR op_ne (pe_cmpR (RI.op_inOwn G_has m_has.1 m_has.2 b_has hr1 pass0) (pv 6) (pv 0) (by with_unfolding_all rfl)) (pe_cmpR op_in_seq (pv 6) (pv 5) (by with_unfolding_all rfl)) (nomark _)) (pw_or1 (pt_not (pt_val (pe_call G_same hr (by rfl) g_same F_same.kp b_same .nil pass0 (pa_cons (pe_meth (pv 0) T.cl m_advance G_advance hr1 b_advance .nil pass0 (pa_cons (pv 6) pa_nil)) (pa_cons (pe_call G_ladv hr1 (by rfl) g_ladv F_ladv.kp b_ladv .nil pass0 (pa_cons (pv 1) (pa_cons (pv 6) pa_nil))) pa_nil))))))))
       (pss_one (ps_ret pe_bl))
       pss_nil)
       (pss_one (ps_if (pt_not (pt_val (pe_call G_same hr (by rfl) g_same F_same.kp b_same .nil pass0 (pa_cons (pe_meth (pv 0) T.cl m_outline G_outline hr1 b_outline .nil pass0 (pa_cons (pv 6) pa_nil)) (pa_cons (pe_call G_drawn hr1 (by rfl) g_drawn F_drawn.kp b_drawn .nil pass0 (pa_cons (pv 1) (pa_cons (pv 6) pa_nil))) pa_nil)))))
       (pss_one (ps_ret pe_bl))
       pss_nil))))
      (pss_cons (ps_if (PW.pt (pw_or (pt_not (pt_val (pe_call G_same hr (by rfl) g_same F_same.kp b_same .nil pass0 (pa_cons (StX.pe_callO (pv 0) m_call (FnOk.raw G_call b1 v1) hr2 pass0 (pa_cons (pv 2) pa_nil)) (pa_cons (pe_call G_width hr2 (by rfl) g_width F_width.kp b_width .nil pass0 (pa_cons (pv 1) (pa_cons (pv 2) (pa_cons pe_int (pa_cons pe_int pa_nil))))) pa_nil))))) (pw_or1 (pt_not (pt_val (pe_call G_same hr (by rfl) g_same F_same.kp b_same .nil pass0 (pa_cons (StX.pe_callO (pv 0) m_call (FnOk.raw G_call b1 v1) hr2 pass0 (pa_cons pe_str pa_nil)) (pa_cons pe_int pa_nil))))))))
      (pss_one (ps_ret pe_bl))
      pss_nil)
      (pss_cons (ps_if (pt_not (pt_val (pe_call G_same hr (by rfl) g_same F_same.kp b_same .nil pass0 (pa_cons (RI.pe_callON (pv 0) m_call G_call hr2 ks pass0 (pa_cons (pv 2) pa_nil) (pk_cons (pv 3) pk_nil)) (pa_cons (pe_call G_width hr2 (by rfl) g_width F_width.kp b_width .nil pass0 (pa_cons (pv 1) (pa_cons (pv 2) (pa_cons (pv 3) (pa_cons pe_int pa_nil))))) pa_nil)))))
      (pss_one (ps_ret pe_bl))
      pss_nil)
      (pss_cons (ps_if (pt_not (pt_val (pe_call G_same hr (by rfl) g_same F_same.kp b_same .nil pass0 (pa_cons (RI.pe_callON (pv 0) m_call G_call hr2 kw pass0 (pa_cons (pv 2) pa_nil) (pk_cons (pv 4) pk_nil)) (pa_cons (pe_call G_width hr2 (by rfl) g_width F_width.kp b_width .nil pass0 (pa_cons (pv 1) (pa_cons (pv 2) (pa_cons pe_int (pa_cons (pv 4) pa_nil))))) pa_nil)))))
      (pss_one (ps_ret pe_bl))
      pss_nil)
      (pss_cons (ps_set (i := 7) scRight.nd rfl (.inl rfl) (pe_call G_width hr2 (by rfl) g_width F_width.kp b_width .nil pass0 (pa_cons (pv 1) (pa_cons (pv 2) (pa_cons (pv 3) (pa_cons (pv 4) pa_nil))))))
      (pss_cons (ps_if (PW.pt (pw_or (pt_not (pt_val (pe_call G_same hr (by rfl) g_same F_same.kp b_same .nil pass0 (pa_cons (StX.pe_callO (pv 0) m_call (FnOk.raw G_call b3 v3) hr2 pass0 (pa_cons (pv 2) (pa_cons (pv 3) (pa_cons (pv 4) pa_nil)))) (pa_cons (pv 7) pa_nil))))) (pw_or1 (pt_not (pt_val (pe_call G_same hr (by rfl) g_same F_same.kp b_same .nil pass0 (pa_cons (RI.pe_callON (pv 0) m_call G_call hr2 k3 pass0 (pa_cons (pv 2) (pa_cons (pv 3) pa_nil)) (pk_cons (pv 4) pk_nil)) (pa_cons (pv 7) pa_nil))))))))
      (pss_one (ps_ret pe_bl))
      pss_nil)
      (pss_one (ps_ret (pe_and (pe_call G_same hr (by rfl) g_same F_same.kp b_same .nil pass0 (pa_cons (RI.pe_callON (pv 0) m_call G_call hr2 ksw pass0 (pa_cons (pv 2) pa_nil) (pk_cons (pv 3) (pk_cons (pv 4) pk_nil))) (pa_cons (pv 7) pa_nil))) (pe_one (pe_call G_same hr (by rfl) g_same F_same.kp b_same .nil pass0 (pa_cons (RI.pe_callON (pv 0) m_call G_call hr2 kws pass0 (pa_cons (pv 2) pa_nil) (pk_cons (pv 4) (pk_cons (pv 3) pk_nil))) (pa_cons (pv 7) pa_nil)))))))))))))))), ?_⟩
    obtain ⟨ha, hrl, hlen, hbad⟩ := id hp
    refine ⟨.ref a, rfl, a, _, 3, .ref rl, rfl, rfl, SqL.of ha, rfl, rl, rfl, ⟨_, SqL.of hrl.1⟩, fun D hD => ?_⟩
    refine lc_list (K := K) (a := rl) (xs := rv rs) (fun i H' => H' D = some (.lst (cv ((cs rs).take i))) ∧ Same H H') ⟨upd_same, same_new hD⟩ (fun i H' _ ⟨_, sm⟩ => SqL.of (sm _ _ hrl.1)) ?_ ?_
    · rintro i x H' hi ⟨hD', sm⟩
      unfold rv at hi
      rw [List.getElem?_map] at hi
      cases en : rs[i]? with
      | none => rw [en] at hi; cases hi
      | some r =>
      rw [en] at hi; cases hi
      have hrT := (hrl.2 r (List.mem_of_getElem? en)).kp (.of sm)
      have hcat : (cs rs)[i]? = some r.c := by unfold cs; rw [List.getElem?_map, en]; rfl
      refine ⟨rfl, .ref r.t, rfl, r.t, _, 0, .str (sg r.c), rfl, rfl, SqT.of hrT.1, rfl, _, hD', ?_, ?_, same_at sm hD⟩
      · rw [List.length_map, List.length_take, List.length_map]; exact small1000 (by omega)
      · rw [upd_same, List.take_add_one, hcat, cv, cv, List.map_append]; rfl
    rintro H1 ⟨hD1, s1⟩
    rw [rv_len, List.take_of_length_le (by rw [List.length_map]; exact Nat.le_refl _)] at hD1
    have hf1 := hf.same s1
    have hp1 := hp.same s1
    obtain ⟨dx, d, fs, es, h1, h2, h3, h4, h5, h6, h7, h8, h9, h10⟩ := id hf1
    obtain ⟨ha1, hrl1, _, _⟩ := id hp1
    refine ⟨.ref p, rfl, p, dx, fs, rfl, h1, _, rfl, iteF ?_⟩
    refine ⟨.ref p, rfl, p, C, dx, fs, _, rfl, h1, T.cl, T.n1, h2, .ref a, rfl, a, _, 0, .str nm, rfl, rfl, SqL.of ha1, rfl, _, _, rfl, sv_str _ _ 3, true, rfl, iteF ?_⟩
    refine ⟨.ref p, rfl, p, C, dx, fs, _, rfl, h1, T.cl, T.n2, h3, .ref a, rfl, a, _, 1, .int h, rfl, rfl, SqL.of ha1, rfl, _, _, rfl, sv_int _ _ 3, true, rfl, iteF ?_⟩
    refine ⟨.ref p, rfl, p, C, dx, fs, _, rfl, h1, T.cl, T.n3, h4, .ref a, rfl, a, _, 2, .int b, rfl, rfl, SqL.of ha1, rfl, _, _, rfl, sv_int _ _ 3, true, rfl, iteF ?_⟩
    have el : es.length = rs.length := by rw [← h7, List.length_map]
    have lk : (kvE es).length ≤ sizeLine := by rw [kvE_len]; exact Nat.le_of_lt (small1000 (by omega))
    have ekeys : (kvE es).map (fun kv => kV kv.1) = cv (cs rs) := by rw [keys_rv, h7]
    refine ⟨.ref p, rfl, p, dx, fs, (kvE es).length, rfl, h1, lk, ⟨p, dx, d, fs, kvE es, rfl, h1, h5, .inl h6, rfl, rfl⟩, .ref D, rfl, .ref D, _, rfl, .inl ⟨_, SqL.of hD1, rfl⟩, rfl, _, rfl, ?_⟩
    rw [kvE_len, List.length_map, List.length_map, el, decide_eq_true rfl]
    refine iteF ⟨.ref p, rfl, p, dx, d, fs, kvE es, (kvE es).length, rfl, h1, h5, h6, by rw [kvE_len]; omega, lk, fun H2 hp2 hd2 => ⟨p, dx, d, fs, kvE es, rfl, hp2, h5, hd2, rfl, rfl⟩, fun r nr => ?_⟩
    rw [ekeys]
    have s2 := same_new nr (o := .lst (cv (cs rs)))
    have hr2' : (upd H1 r (.lst (cv (cs rs)))) r = some (.lst (cv (cs rs))) := upd_same
    generalize upd H1 r (.lst (cv (cs rs))) = H2 at s2 hr2' ⊢
    have hD2 := s2 _ _ hD1
    have s12 := s1.trans s2
    refine ⟨.ref D, rfl, _, _, rfl, same_cv hr2' hD2 (by rw [List.length_map]; omega), true, rfl, iteF ?_⟩
    have hf2 := hf.same s12
    have hp2 := hp.same s12
    clear s1 s2 hf1 hp1 h1 h6 h8 ha1 hrl1 hr2' hD1 hD
    refine ⟨rfl, signs, rfl, for_it walk_str (fun i σ H' => ∃ y6 : Option V, σ = [some (.ref p), some (.ref a), some (.str z), some (.int sz), some (.int wd), some (.ref D), y6, none, none] ∧ Same H2 H') ⟨none, rfl, Same.refl _⟩ (fun _ _ _ _ _ => trivial) ?_ ?_⟩
    · rintro i v σ H3 H4 hi ⟨y6, rfl, sm⟩ ⟨rfl, c, hc, rfl⟩
      have hf3 := hf2.same sm
      have hp3 := hp2.same sm
      have hD3 := sm _ _ hD2
      obtain ⟨dx, d, fs, es, h1, _, _, _, _, _, _, _, h9, h10⟩ := id hf3
      refine ⟨.str (sg c), rfl, .ref p, rfl, p, dx, fs, rfl, h1, p, c, nm, h, b, rs, rfl, hf3, _, rfl, .str (sg c), rfl, .ref D, rfl, D, _, rfl, .inl (SqL.of hD3), rfl, flat_cv _, rfl, _, rfl, ?_⟩
      rw [inV_cv, if_neg Bool.false_ne_true, decide_eq_true rfl]
      refine iteF ⟨.ref p, rfl, p, dx, fs, rfl, h1, h9, .str (sg c), rfl, p, c, nm, h, b, rs, rfl, hf3, .ref a, rfl, .str (sg c), rfl, a, c, nm, h, b, rl, rs, rfl, hp3, _, _, rfl, sv_int _ _ 3, true, rfl, iteF ?_⟩
      refine ⟨.ref p, rfl, p, dx, fs, rfl, h1, h10, .str (sg c), rfl, p, c, nm, h, b, rs, rfl, hf3, fun hno H5 t st ht => ?_, fun r hr => ?_⟩
      · refine ⟨.ref a, rfl, .str (sg c), rfl, a, c, nm, h, b, rl, rs, rfl, hp3.same st, fun _ H6 t2 st2 ht2 => ?_, fun r hr => by rw [hno] at hr; cases hr⟩
        exact ⟨_, _, rfl, .inr ⟨t, t2, [], [], rfl, rfl, .inr ⟨st2 _ _ ht, ht2⟩, rfl, Nat.zero_le _, (fun i u v hu => nomatch hu)⟩, true, rfl, iteF ⟨_, rfl, sm.trans (st.trans st2)⟩⟩
      · refine ⟨.ref a, rfl, .str (sg c), rfl, a, c, nm, h, b, rl, rs, rfl, hp3, (fun hno => by rw [hno] at hr; cases hr), fun r2 hr2 => ?_⟩
        obtain rfl : r = r2 := Option.some.inj (hr.symm.trans hr2)
        have ho := (hp3.2.1.2 r (rowOf_mem hr).1).2.1
        exact ⟨_, _, rfl, ho.same, true, rfl, iteF ⟨_, rfl, sm⟩⟩
    · rintro σ H3 ⟨y6, rfl, sm⟩
      have hf3 := hf2.same sm
      have hp3 := hp2.same sm
      have s13 := s12.trans sm
      clear sm hf2 hp2 hD2 s12
      have hin : ∀ {H' : Hp}, Same H3 H' → ∃ dx fs, H' p = some (.ins C dx fs) := fun s => by
        obtain ⟨dx, d, fs, es, h1, _⟩ := hf3
        exact ⟨dx, fs, s _ _ h1⟩
      refine ⟨.ref p, rfl, p, rfl, .str z, rfl, .inr (hin (Same.refl _)), p, z, nm, 1, 0, h, b, rs, rfl, hf3, hz, by decide, by decide, fun H4 s4 => ?_⟩
      refine ⟨.ref a, rfl, .str z, rfl, a, z, nm, 1, 0, h, b, rl, rs, rfl, hp3.same s4, hz, by decide, by decide, fun H5 s5 => ⟨_, _, rfl, sv_int _ _ 3, true, rfl, iteF ?_⟩⟩
      have t5 := s4.trans s5
      refine ⟨.ref p, rfl, p, rfl, .inr (hin t5), p, _, nm, 1, 0, h, b, rs, rfl, hf3.same t5, by decide +kernel, by decide, by decide, fun H6 s6 => ⟨_, _, rfl, sv_int _ _ 3, true, rfl, iteF ?_⟩⟩
      have t6 := t5.trans s6
      refine ⟨.ref p, rfl, p, rfl, .str z, rfl, .int sz, rfl, rfl, rfl, hin t6, p, z, nm, sz, 0, h, b, rs, rfl, hf3.same t6, hz, hs0, hs1, fun H7 s7 => ?_⟩
      have t7 := t6.trans s7
      refine ⟨.ref a, rfl, .str z, rfl, .int sz, rfl, a, z, nm, sz, 0, h, b, rl, rs, rfl, hp3.same t7, hz, hs0, hs1, fun H8 s8 => ⟨_, _, rfl, sv_int _ _ 3, true, rfl, iteF ?_⟩⟩
      have t8 := t7.trans s8
      refine ⟨.ref p, rfl, p, rfl, .str z, rfl, .int wd, rfl, rfl, rfl, hin t8, p, z, nm, 1, wd, h, b, rs, rfl, hf3.same t8, hz, by decide, by decide, fun H9 s9 => ?_⟩
      have t9 := t8.trans s9
      refine ⟨.ref a, rfl, .str z, rfl, .int wd, rfl, a, z, nm, 1, wd, h, b, rl, rs, rfl, hp3.same t9, hz, by decide, by decide, fun H10 s10 => ⟨_, _, rfl, sv_int _ _ 3, true, rfl, iteF ?_⟩⟩
      have t10 := t9.trans s10
      refine ⟨.ref a, rfl, .str z, rfl, .int sz, rfl, .int wd, rfl, a, z, nm, sz, wd, h, b, rl, rs, rfl, hp3.same t10, hz, hs0, hs1, fun H11 s11 => ?_⟩
      have t11 := t10.trans s11
      refine ⟨.ref p, rfl, p, rfl, .str z, rfl, .int sz, rfl, .int wd, rfl, .inr (hin t11), p, z, nm, sz, wd, h, b, rs, rfl, hf3.same t11, hz, hs0, hs1, fun H12 s12 => ⟨_, rfl, _, _, rfl, sv_int _ _ 3, true, rfl, iteF ?_⟩⟩
      have t12 := t11.trans s12
      refine ⟨.ref p, rfl, p, rfl, .str z, rfl, .int sz, rfl, .int wd, rfl, rfl, rfl, hin t12, p, z, nm, sz, wd, h, b, rs, rfl, hf3.same t12, hz, hs0, hs1, fun H13 s13' => ⟨_, rfl, _, _, rfl, sv_int _ _ 3, true, rfl, iteF ?_⟩⟩
      have t13 := t12.trans s13'
      refine ⟨.ref p, rfl, p, rfl, .str z, rfl, .int sz, rfl, .int wd, rfl, rfl, rfl, hin t13, p, z, nm, sz, wd, h, b, rs, rfl, hf3.same t13, hz, hs0, hs1, fun H14 s14 => ⟨_, rfl, _, _, rfl, sv_int _ _ 3, _, rfl, iteT ?_⟩⟩
      have t14 := t13.trans s14
      refine ⟨.ref p, rfl, p, rfl, .str z, rfl, .int wd, rfl, .int sz, rfl, rfl, rfl, hin t14, p, z, nm, sz, wd, h, b, rs, rfl, hf3.same t14, hz, hs0, hs1, fun H15 s15 => ⟨_, rfl, _, _, rfl, sv_int _ _ 3, ?_⟩⟩
      exact q _ (s13.trans (t14.trans s15))
end
end K24

set_option maxRecDepth 100000
set_option maxHeartbeats 8000000
namespace K24
open PySem PySem.Spec PyProof.Rows L2
section
variable {P : Program} {w : World} {K : PySem.W.Frag} {mg : Str → Option Value} {base : Heap} {t1 : Tok}
/-! ### _law_spoilt -/
def spSpoilt : Sp := fun vs H Q _ => ∃ (a dr : Addr) (way d0 d1 d2 d3 : Int) (rs : List Rw), vs = [.ref a, .int way, .ref dr] ∧ RowsAt H a rs ∧ rs.length ≤ 38 ∧ H dr = some (.lst [.int d0, .int d1, .int d2, .int d3]) ∧ 0 ≤ d2 ∧ d2 ≤ 100 ∧
  ∀ H' q out, Same H H' → RowsAt H' q out → out.length ≤ 40 → Q (.ref q) H'
theorem scSpoilt : FnScope ["_law_rows", "_law_way", "_law_draws", "_law_out", "_law_at"] ["_law_rows", "_law_way", "_law_draws"] (defScope sSpoilt) := ⟨rfl, rfl, rfl, by decide +kernel, rfl, by decide +kernel, by decide +kernel⟩
theorem ok_spoilt {f : Addr} {fd : FuncData} (B : Blt mg) (F : Fun K "_law_spoilt" "_law_spoilt" sSpoilt f fd) : FnOk P w K mg base CX0 1 f fd ["_law_rows", "_law_way", "_law_draws"] spSpoilt := by
  refine F.ok scSpoilt (fun vs H Q E h => ?_) (fun cdv A0 outer s H vs Q E hr h => ?_)
  · obtain ⟨a, dr, way, d0, d1, d2, d3, rs, rfl, _⟩ := h; rfl
  · obtain ⟨a, dr, way, d0, d1, d2, d3, rs, rfl, hra, hl38, hdr, hd0, hd1, q⟩ := h
    refine ⟨_, (pss_cons (ps_set (i := 3) scSpoilt.nd rfl (.inl rfl) (pe_callTy call_list_of (by rfl) B.list (by decide +kernel) (pa_cons (pv 0) pa_nil)))
      (Evl.pss_cut (ps_if (PW.pt (pw_and (pt_cmpR op_ne (pv 1) pe_int (nomark _)) (pw_and1 (pt_cmpR op_gt (pe_callB call_len (by rfl) B.len PySem.boot_len (pa_cons (pv 0) pa_nil)) pe_int (nomark _)))))
      (pss_cons (ps_set (i := 4) scSpoilt.nd rfl (.inl rfl) (pe_op op_modN (pe_callTy call_int1 (by rfl) B.int (by decide +kernel) (pa_cons (pe_ix ix_list (pv 2) pe_int (fun _ _ => rfl)) pa_nil)) (pe_op op_add (pe_callB call_len (by rfl) B.len PySem.boot_len (pa_cons (pv 3) pa_nil)) pe_int)))
       (pss_one (ps_set (i := 3) scSpoilt.nd rfl (.inl rfl) (pe_op op_cat (pe_op op_cat (pe_slice sl_list (pv 3) po_none (po_some (pv 4))) (pe_lst (pa_cons (pe_tup (pa_cons (pe_ix ix_tup (pe_ix ix_list (pv 0) (pe_op op_modN (pe_callTy call_int1 (by rfl) B.int (by decide +kernel) (pa_cons (pe_ix ix_list (pv 2) pe_int (fun _ _ => rfl)) pa_nil)) (pe_callB call_len (by rfl) B.len PySem.boot_len (pa_cons (pv 0) pa_nil))) (fun _ _ => rfl)) pe_int (fun _ _ => rfl)) (pa_cons (pe_op op_add (pe_ix ix_list (pv 2) pe_int (fun _ _ => rfl)) pe_int) (pa_cons (pe_tup pa_nil) pa_nil)))) pa_nil))) (pe_slice sl_list (pv 3) (po_some (pv 4)) po_none)))))
      pss_nil)
      (Evl.pss_cut (ps_if (pt_cmpR op_ne (pv 1) pe_int (nomark _))
      (pss_cons (ps_set (i := 4) scSpoilt.nd rfl (.inl rfl) (pe_op op_modN (pe_callTy call_int1 (by rfl) B.int (by decide +kernel) (pa_cons (pe_ix ix_list (pv 2) pe_int (fun _ _ => rfl)) pa_nil)) (pe_op op_add (pe_callB call_len (by rfl) B.len PySem.boot_len (pa_cons (pv 3) pa_nil)) pe_int)))
       (pss_one (ps_set (i := 3) scSpoilt.nd rfl (.inl rfl) (pe_op op_cat (pe_op op_cat (pe_slice sl_list (pv 3) po_none (po_some (pv 4))) (pe_lst (pa_cons (pe_tup (pa_cons pe_str (pa_cons (pe_op op_add (pe_ix ix_list (pv 2) pe_int (fun _ _ => rfl)) pe_int) (pa_cons (pe_tup pa_nil) pa_nil)))) pa_nil))) (pe_slice sl_list (pv 3) (po_some (pv 4)) po_none)))))
      pss_nil)
      (pss_one (ps_ret (pv 3)))))), ?_⟩
    refine ⟨.ref a, rfl, a, _, rfl, .inl (SqL.of hra.1), fun q0 nq0 => ?_⟩
    have s0 := same_new nq0 (o := .lst (rv rs))
    have k0 : (upd H q0 (.lst (rv rs))) q0 = some (.lst (rv rs)) := upd_same
    generalize upd H q0 (.lst (rv rs)) = H0 at s0 k0 ⊢
    refine ⟨fun σ H' => ∃ (q : Addr) (out : List Rw) (y4 : Option V), σ = [some (.ref a), some (.int way), some (.ref dr), some (.ref q), y4] ∧ Same H H' ∧ RowsAt H' q out ∧ out.length ≤ rs.length + 1, ?_, ?_⟩
    · have sm := s0
      have hra' := hra.same sm
      have hdr' := sm _ _ hdr
      have hout : RowsAt H0 q0 rs := ⟨k0, hra'.2⟩
      refine ⟨.int way, rfl, rfl, _, rfl, ite2 (fun _ => ?_) (fun _ => ⟨q0, rs, none, rfl, sm, hout, by omega⟩)⟩
      refine ⟨.ref a, rfl, .ref a, _, rfl, .inl ⟨_, SqL.of hra'.1, rfl⟩, _, 0, rfl, rfl, _, rfl, ?_⟩
      rw [rv_len]
      refine ite2 (fun hpos => ?_) (fun _ => ⟨q0, rs, none, rfl, sm, hout, by omega⟩)
      have hp : 0 < rs.length := by have := of_decide_eq_true hpos; omega
      obtain ⟨i, hi⟩ : ∃ i : Nat, d1.fmod (rs.length : Int) = (i : Int) := ⟨(d1.fmod (rs.length : Int)).toNat, by have := Int.fmod_nonneg_of_pos d1 (show (0 : Int) < (rs.length : Int) by omega); omega⟩
      have hil : i < rs.length := by have := Int.fmod_lt_of_pos d1 (show (0 : Int) < (rs.length : Int) by omega); omega
      obtain ⟨r, hr'⟩ : ∃ r, rs[i]? = some r := ⟨_, List.getElem?_eq_getElem hil⟩
      generalize hQ : q0 = q at *
      obtain ⟨out, hOut⟩ : ∃ out, out = rs := ⟨_, rfl⟩
      rw [← hOut] at hout
      have hol : out.length ≤ rs.length := by rw [hOut]; exact Nat.le_refl _
      generalize hHH : H0 = H' at *
      obtain ⟨j, hj⟩ : ∃ j : Nat, d0.fmod ((out.length : Int) + 1) = (j : Int) := ⟨(d0.fmod ((out.length : Int) + 1)).toNat, by have := Int.fmod_nonneg_of_pos d0 (show (0 : Int) < (out.length : Int) + 1 by omega); omega⟩
      have hjl : j ≤ out.length := by have := Int.fmod_lt_of_pos d0 (show (0 : Int) < (out.length : Int) + 1 by omega); omega
      refine ⟨.ref dr, rfl, dr, _, 0, .int d0, rfl, rfl, SqL.of hdr', rfl, .inl ⟨_, rfl, .ref q, rfl, .ref q, _, rfl, .inl ⟨_, SqL.of hout.1, rfl⟩, _, 1, rfl, rfl, d0, _, rfl, rfl, (by rw [rv_len]; omega), ?_⟩⟩
      rw [rv_len]
      show gName 4 (V.int (d0.fmod ((out.length : Int) + 1))) _ _ _
      rw [hj]
      refine ⟨.ref q, rfl, .int (j : Int), rfl, (j : Int), rfl, q, _, rfl, SqL.of hout.1, fun p1 np1 => ?_⟩
      rw [cutV_to _ (by rw [rv_len]; exact hjl)]
      have u1 := same_new np1 (o := .lst ((rv out).take j))
      have k1 : (upd H' p1 (.lst ((rv out).take j))) p1 = some (.lst ((rv out).take j)) := upd_same
      generalize upd H' p1 (.lst ((rv out).take j)) = G1 at u1 k1 ⊢
      refine ⟨.ref a, rfl, .ref dr, rfl, dr, _, 1, .int d1, rfl, rfl, SqL.of (u1 _ _ hdr'), rfl, .inl ⟨_, rfl, .ref a, rfl, .ref a, _, rfl, .inl ⟨_, SqL.of (u1 _ _ hra'.1), rfl⟩, d1, _, rfl, rfl, (by rw [rv_len]; omega), ?_⟩⟩
      refine ⟨a, _, (i : Int), .ref r.t, rfl, (by rw [rv_len]; show V.int (d1.fmod (rs.length : Int)) = _; rw [hi]), SqL.of (u1 _ _ hra'.1), atI_nat (rv_at hr'), r.t, _, 0, .str (sg r.c), rfl, rfl, SqT.of ((hra'.2 r (List.mem_of_getElem? hr')).kp (.of u1)).1, rfl, ?_⟩
      refine ⟨.ref dr, rfl, dr, _, 2, .int d2, rfl, rfl, SqL.of (u1 _ _ hdr'), rfl, d2, 1, rfl, rfl, Nat.zero_le _, fun t nt => ?_⟩
      have u2 := same_new nt (o := .tup [])
      have k2 : (upd G1 t (.tup [])) t = some (.tup []) := upd_same
      generalize upd G1 t (.tup []) = G2 at u2 k2 ⊢
      refine ⟨by show 3 ≤ sizeLine; decide, fun T nT => ?_⟩
      have u3 := same_new nT (o := .tup [.str (sg r.c), .int (d2 + 1), .ref t])
      have k3 : (upd G2 T (.tup [.str (sg r.c), .int (d2 + 1), .ref t])) T = some (.tup [.str (sg r.c), .int (d2 + 1), .ref t]) := upd_same
      generalize upd G2 T (.tup [.str (sg r.c), .int (d2 + 1), .ref t]) = G3 at u3 k3 ⊢
      refine ⟨by show 1 ≤ sizeLine; decide, fun p2 np2 => ?_⟩
      have u4 := same_new np2 (o := .lst [.ref T])
      have k4 : (upd G3 p2 (.lst [.ref T])) p2 = some (.lst [.ref T]) := upd_same
      generalize upd G3 p2 (.lst [.ref T]) = G4 at u4 k4 ⊢
      refine ⟨p1, p2, _, _, rfl, rfl, u4 _ _ (u3 _ _ (u2 _ _ k1)), k4, ?_, fun p3 np3 => ?_⟩
      · rw [List.length_take, rv_len]; show _ + 1 ≤ sizeLine; exact Nat.le_of_lt (small1000 (by omega))
      have u5 := same_new np3 (o := .lst ((rv out).take j ++ [V.ref T]))
      have k5 : (upd G4 p3 (.lst ((rv out).take j ++ [V.ref T]))) p3 = some (.lst ((rv out).take j ++ [V.ref T])) := upd_same
      generalize upd G4 p3 (.lst ((rv out).take j ++ [V.ref T])) = G5 at u5 k5 ⊢
      have uA : Same H' G5 := u1.trans (u2.trans (u3.trans (u4.trans u5)))
      refine ⟨.ref q, rfl, .int (j : Int), rfl, (j : Int), rfl, q, _, rfl, SqL.of (uA _ _ hout.1), fun p4 np4 => ?_⟩
      rw [cutV_from _ (by rw [rv_len]; exact hjl)]
      have u6 := same_new np4 (o := .lst ((rv out).drop j))
      have k6 : (upd G5 p4 (.lst ((rv out).drop j))) p4 = some (.lst ((rv out).drop j)) := upd_same
      generalize upd G5 p4 (.lst ((rv out).drop j)) = G6 at u6 k6 ⊢
      refine ⟨p3, p4, _, _, rfl, rfl, u6 _ _ k5, k6, ?_, fun p5 np5 => ?_⟩
      · rw [List.length_append, List.length_take, List.length_drop, rv_len]; show _ + 1 + _ ≤ sizeLine; exact Nat.le_of_lt (small1000 (by omega))
      have u7 := same_new np5 (o := .lst ((rv out).take j ++ [V.ref T] ++ (rv out).drop j))
      have uB : Same H' _ := uA.trans (u6.trans u7)
      have tT : RowT _ ⟨T, r.c, d2 + 1, t⟩ := ⟨u7 _ _ (u6 _ _ (u5 _ _ (u4 _ _ k3))), .inr ⟨t, [], rfl, u7 _ _ (u6 _ _ (u5 _ _ (u4 _ _ (u3 _ _ k2)))), Nat.zero_le _, (fun v hv => nomatch hv)⟩, by show 0 ≤ d2 + 1; omega, by show d2 + 1 ≤ 1000; omega⟩
      refine ⟨p5, out.take j ++ [⟨T, r.c, d2 + 1, t⟩] ++ out.drop j, _, rfl, sm.trans uB, ⟨?_, fun r hr => ?_⟩, ?_⟩
      · rw [upd_same]; unfold rv; rw [List.map_append, List.map_append, List.map_take, List.map_drop]; rfl
      · rcases List.mem_append.mp hr with hr | hr
        · rcases List.mem_append.mp hr with hr | hr
          · exact (hout.2 r (List.mem_of_mem_take hr)).kp (.of uB)
          · rw [List.mem_singleton.mp hr]; exact tT
        · exact (hout.2 r (List.mem_of_mem_drop hr)).kp (.of uB)
      · rw [List.length_append, List.length_append, List.length_take, List.length_drop]; show _ + 1 + _ ≤ _; omega
    rintro σ H' ⟨q1, out, y4, rfl, sm, hout, hol⟩
    have hra' := hra.same sm
    have hdr' := sm _ _ hdr
    refine ⟨fun σ H' => ∃ (q : Addr) (out : List Rw) (y4 : Option V), σ = [some (.ref a), some (.int way), some (.ref dr), some (.ref q), y4] ∧ Same H H' ∧ RowsAt H' q out ∧ out.length ≤ rs.length + 2, ?_, ?_⟩
    · refine ⟨.int way, rfl, rfl, _, rfl, ite2 (fun _ => ?_) (fun _ => ⟨q1, out, y4, rfl, sm, hout, by omega⟩)⟩
      generalize hQ : q1 = q at *
      obtain ⟨j, hj⟩ : ∃ j : Nat, d3.fmod ((out.length : Int) + 1) = (j : Int) := ⟨(d3.fmod ((out.length : Int) + 1)).toNat, by have := Int.fmod_nonneg_of_pos d3 (show (0 : Int) < (out.length : Int) + 1 by omega); omega⟩
      have hjl : j ≤ out.length := by have := Int.fmod_lt_of_pos d3 (show (0 : Int) < (out.length : Int) + 1 by omega); omega
      refine ⟨.ref dr, rfl, dr, _, 3, .int d3, rfl, rfl, SqL.of hdr', rfl, .inl ⟨_, rfl, .ref q, rfl, .ref q, _, rfl, .inl ⟨_, SqL.of hout.1, rfl⟩, _, 1, rfl, rfl, d3, _, rfl, rfl, (by rw [rv_len]; omega), ?_⟩⟩
      rw [rv_len]
      show gName 4 (V.int (d3.fmod ((out.length : Int) + 1))) _ _ _
      rw [hj]
      refine ⟨.ref q, rfl, .int (j : Int), rfl, (j : Int), rfl, q, _, rfl, SqL.of hout.1, fun p1 np1 => ?_⟩
      rw [cutV_to _ (by rw [rv_len]; exact hjl)]
      have u1 := same_new np1 (o := .lst ((rv out).take j))
      have k1 : (upd H' p1 (.lst ((rv out).take j))) p1 = some (.lst ((rv out).take j)) := upd_same
      generalize upd H' p1 (.lst ((rv out).take j)) = G1 at u1 k1 ⊢
      refine ⟨.ref dr, rfl, dr, _, 2, .int d2, rfl, rfl, SqL.of (u1 _ _ hdr'), rfl, d2, 1, rfl, rfl, Nat.zero_le _, fun t nt => ?_⟩
      have u2 := same_new nt (o := .tup [])
      have k2 : (upd G1 t (.tup [])) t = some (.tup []) := upd_same
      generalize upd G1 t (.tup []) = G2 at u2 k2 ⊢
      refine ⟨by show 3 ≤ sizeLine; decide, fun T nT => ?_⟩
      have u3 := same_new nT (o := .tup [.str (Str.ofString " "), .int (d2 + 1), .ref t])
      have k3 : (upd G2 T (.tup [.str (Str.ofString " "), .int (d2 + 1), .ref t])) T = some (.tup [.str (Str.ofString " "), .int (d2 + 1), .ref t]) := upd_same
      generalize upd G2 T (.tup [.str (Str.ofString " "), .int (d2 + 1), .ref t]) = G3 at u3 k3 ⊢
      rw [eSp] at k3
      refine ⟨by show 1 ≤ sizeLine; decide, fun p2 np2 => ?_⟩
      have u4 := same_new np2 (o := .lst [.ref T])
      have k4 : (upd G3 p2 (.lst [.ref T])) p2 = some (.lst [.ref T]) := upd_same
      generalize upd G3 p2 (.lst [.ref T]) = G4 at u4 k4 ⊢
      refine ⟨p1, p2, _, _, rfl, rfl, u4 _ _ (u3 _ _ (u2 _ _ k1)), k4, ?_, fun p3 np3 => ?_⟩
      · rw [List.length_take, rv_len]; show _ + 1 ≤ sizeLine; exact Nat.le_of_lt (small1000 (by omega))
      have u5 := same_new np3 (o := .lst ((rv out).take j ++ [V.ref T]))
      have k5 : (upd G4 p3 (.lst ((rv out).take j ++ [V.ref T]))) p3 = some (.lst ((rv out).take j ++ [V.ref T])) := upd_same
      generalize upd G4 p3 (.lst ((rv out).take j ++ [V.ref T])) = G5 at u5 k5 ⊢
      have uA : Same H' G5 := u1.trans (u2.trans (u3.trans (u4.trans u5)))
      refine ⟨.ref q, rfl, .int (j : Int), rfl, (j : Int), rfl, q, _, rfl, SqL.of (uA _ _ hout.1), fun p4 np4 => ?_⟩
      rw [cutV_from _ (by rw [rv_len]; exact hjl)]
      have u6 := same_new np4 (o := .lst ((rv out).drop j))
      have k6 : (upd G5 p4 (.lst ((rv out).drop j))) p4 = some (.lst ((rv out).drop j)) := upd_same
      generalize upd G5 p4 (.lst ((rv out).drop j)) = G6 at u6 k6 ⊢
      refine ⟨p3, p4, _, _, rfl, rfl, u6 _ _ k5, k6, ?_, fun p5 np5 => ?_⟩
      · rw [List.length_append, List.length_take, List.length_drop, rv_len]; show _ + 1 + _ ≤ sizeLine; exact Nat.le_of_lt (small1000 (by omega))
      have u7 := same_new np5 (o := .lst ((rv out).take j ++ [V.ref T] ++ (rv out).drop j))
      have uB : Same H' _ := uA.trans (u6.trans u7)
      have tT : RowT _ ⟨T, 32, d2 + 1, t⟩ := ⟨u7 _ _ (u6 _ _ (u5 _ _ (u4 _ _ k3))), .inr ⟨t, [], rfl, u7 _ _ (u6 _ _ (u5 _ _ (u4 _ _ (u3 _ _ k2)))), Nat.zero_le _, (fun v hv => nomatch hv)⟩, by show 0 ≤ d2 + 1; omega, by show d2 + 1 ≤ 1000; omega⟩
      refine ⟨p5, out.take j ++ [⟨T, 32, d2 + 1, t⟩] ++ out.drop j, _, rfl, sm.trans uB, ⟨?_, fun r hr => ?_⟩, ?_⟩
      · rw [upd_same]; unfold rv; rw [List.map_append, List.map_append, List.map_take, List.map_drop]; rfl
      · rcases List.mem_append.mp hr with hr | hr
        · rcases List.mem_append.mp hr with hr | hr
          · exact (hout.2 r (List.mem_of_mem_take hr)).kp (.of uB)
          · rw [List.mem_singleton.mp hr]; exact tT
        · exact (hout.2 r (List.mem_of_mem_drop hr)).kp (.of uB)
      · rw [List.length_append, List.length_append, List.length_take, List.length_drop]; show _ + 1 + _ ≤ _; omega
    rintro σ H2 ⟨q2, out2, y4, rfl, sm2, hout2, hol2⟩
    exact ⟨.ref q2, rfl, q _ q2 out2 sm2 hout2 (by omega)⟩
end
end K24

set_option maxRecDepth 100000
set_option maxHeartbeats 8000000
namespace K24
open PySem PySem.Spec PyProof.Rows L2
def kvB (l : List Nat) : List (Key × V) := l.map fun c => ((Sum.inr (sg c) : Key), V.bl true)
theorem valB (c : Nat) : ∀ l : List Nat, (valV (kvB l) (Sum.inr (sg c))).isSome = decide (c ∈ l)
  | [] => rfl
  | x :: l => by
    show (valV (((Sum.inr (sg x) : Key), V.bl true) :: kvB l) _).isSome = _
    by_cases h : x = c
    · rw [valV_pos (sg_inj.mpr h)]; symm; exact decide_eq_true (by rw [h]; exact List.mem_cons_self)
    · rw [valV_neg (fun z => h (sg_inj.mp z)), valB c l]
      exact decide_eq_decide.mpr ⟨fun m => List.mem_cons_of_mem _ m, fun m => (List.mem_cons.mp m).resolve_left fun e => h e.symm⟩
def badT (rs : List Rw) : Str := match badOf rs with
  | none => Str.ofString ""
  | some c => sg c
theorem sg_no (c : Nat) : ¬ V.str (sg c) = V.str (Str.ofString "") := fun h => by
  injection h with h
  have h2 := congrArg (fun z : Str => z.length) h
  rw [show (Str.ofString "").length = 0 by decide +kernel] at h2
  cases h2
theorem made_up {H : Hp} {x dx C : Addr} (nx : H x = none) (ndx : H dx = none) : Same H (upd (upd H dx (.own x)) x (.ins C dx [])) := fun b o hb => by
  rw [upd_ne (fun e => by subst e; rw [nx] at hb; cases hb), upd_ne (fun e => by subst e; rw [ndx] at hb; cases hb)]; exact hb
theorem made_same {H H' : Hp} {x dx C : Addr} (nx : H x = none) (ndx : H dx = none) (hk : ∀ b o, b ≠ x → (upd (upd H dx (.own x)) x (.ins C dx [])) b = some o → H' b = some o) : Same H H' := fun b o hb =>
  hk b o (fun e => by subst e; rw [nx] at hb; cases hb) (made_up nx ndx b o hb)
section
variable {P : Program} {w : World} {K : PySem.W.Frag} {mg : Str → Option Value} {base : Heap} {t1 : Tok}
/-! ### _law_first_bad -/
def spFirst : Sp := fun vs H Q _ => ∃ (a : Addr) (rs : List Rw), vs = [.ref a] ∧ RowsAt H a rs ∧ rs.length ≤ 100 ∧ ∀ H', Same H H' → Q (.str (badT rs)) H'
theorem scFirst : FnScope ["_law_rows", "_law_seen", "_law_item"] ["_law_rows"] (defScope sFirst) := ⟨rfl, rfl, rfl, by decide +kernel, rfl, by decide +kernel, by decide +kernel⟩
theorem ok_first {f : Addr} {fd : FuncData} (F : Fun K "_law_first_bad" "_law_first_bad" sFirst f fd) : FnOk P w K mg base CX0 1 f fd ["_law_rows"] spFirst := by
  refine F.ok scFirst (fun vs H Q E h => ?_) (fun cdv A0 outer s H vs Q E hr h => ?_)
  · obtain ⟨a, rs, rfl, _⟩ := h; rfl
  · obtain ⟨a, rs, rfl, hra, hl, q⟩ := h
    refine ⟨_, (pss_cons (ps_set (i := 1) scFirst.nd rfl (.inl rfl) (pe_disp (pps_cons pe_str pe_bl pps_nil) (by rfl) (by rfl) (fun z => by cases z) (by decide)))
      (pss_cons (ps_for (PassesOwn.never) rfl (pi_list (pv 0)) (pg_name (i := 2) scFirst.nd rfl (.inl rfl))
      (pss_cons (ps_if (pt_cmp (pc_din (hu_of hr) (pe_ix ix_tup (pv 2) pe_int (fun _ _ => rfl)) (pv 1)))
       (pss_one (ps_ret (pe_ix ix_tup (pv 2) pe_int (fun _ _ => rfl))))
       pss_nil)
       (pss_one (ps_dput (hu_of hr) (pv 1) (pe_ix ix_tup (pv 2) pe_int (fun _ _ => rfl)) pe_bl rfl))))
      (pss_one (ps_ret pe_str)))), ?_⟩
    refine fun d nd => ⟨upd_same, [(Sum.inr (Str.ofString " "), .bl true)], rfl, by show 1 ≤ 15; decide, ?_⟩
    rw [upd_upd]
    have s1 := same_new nd (o := .dK (kvB [32]))
    have e1 : (HO.dK (mergeK [] [((Sum.inr (Str.ofString " ") : Key), V.bl true)])) = .dK (kvB [32]) := by rw [eSp]; rfl
    rw [e1]
    have h1 : (upd H d (.dK (kvB [32]))) d = some (.dK (kvB [32])) := upd_same
    generalize upd H d (.dK (kvB [32])) = H1 at s1 h1 ⊢
    refine ⟨.ref a, rfl, a, rfl, ⟨_, SqL.of (s1 _ _ hra.1)⟩, for_list (K := K) (a := a) (xs := rv rs) (fun i σ H' => ∃ y2 : Option V, σ = [some (.ref a), some (.ref d), y2] ∧ Same H H' ∧ H' d = some (.dK (kvB (32 :: (cs rs).take i))) ∧ badOf rs = badFrom ((cs rs).take i) ((cs rs).drop i)) ⟨none, rfl, s1, h1, rfl⟩ (fun i σ H' _ ⟨_, _, sm, _⟩ => SqL.of (sm _ _ hra.1)) ?_ ?_⟩
    · rintro i x σ H' hi ⟨y2, rfl, sm, hd, hbad⟩
      unfold rv at hi
      rw [List.getElem?_map] at hi
      cases en : rs[i]? with
      | none => rw [en] at hi; cases hi
      | some r =>
      rw [en] at hi; cases hi
      have hilt := (List.getElem?_eq_some_iff.mp en).1
      have hrT := (hra.2 r (List.mem_of_getElem? en)).kp (.of sm)
      have hcat : (cs rs)[i]? = some r.c := by unfold cs; rw [List.getElem?_map, en]; rfl
      rw [badFrom_at hcat] at hbad
      refine ⟨.ref r.t, rfl, r.t, _, 0, .str (sg r.c), rfl, rfl, SqT.of hrT.1, rfl, .ref d, rfl, d, _, rfl, DGet.k (k := Sum.inr (sg r.c)) hd, _, rfl, ?_⟩
      have hv := valB r.c (32 :: (cs rs).take i)
      rw [hv]
      refine ite2 (fun hin => ?_) (fun hin => ?_)
      · have hor : r.c = 32 ∨ r.c ∈ (cs rs).take i := List.mem_cons.mp (of_decide_eq_true hin)
        rw [if_pos hor] at hbad
        have h2 := q H' sm
        unfold badT at h2; rw [hbad] at h2
        exact ⟨.ref r.t, rfl, r.t, _, 0, .str (sg r.c), rfl, rfl, SqT.of hrT.1, rfl, h2⟩
      · have hno : ¬ (r.c = 32 ∨ r.c ∈ (cs rs).take i) := fun z => hin (decide_eq_true (List.mem_cons.mpr z))
        rw [if_neg hno] at hbad
        have hvn : valV (kvB (32 :: (cs rs).take i)) (Sum.inr (sg r.c)) = none := Option.not_isSome_iff_eq_none.mp (by rw [hv]; exact hin)
        refine ⟨.ref d, rfl, .ref r.t, rfl, r.t, _, 0, .str (sg r.c), rfl, rfl, SqT.of hrT.1, rfl, d, _, rfl, DPut.k (k := Sum.inr (sg r.c)) hd ?_, _, rfl, same_at sm nd, ?_, hbad⟩
        · unfold kvB; rw [List.length_map, List.length_cons, List.length_take]; exact small1000 (by omega)
        · rw [putK_new _ hvn, upd_same, List.take_add_one, hcat]; unfold kvB; rw [← List.cons_append, List.map_append]; rfl
    · rintro σ H' ⟨y2, rfl, sm, hd, hbad⟩
      rw [rv_len, List.drop_of_length_le (by simp [cs])] at hbad
      have h2 := q H' sm
      unfold badT at h2; rw [hbad] at h2
      exact h2
theorem ok_sameH {f : Addr} {fd : FuncData} (B : Blt mg) (F : Fun K "_law_same" "_law_same" sSame f fd) : L2H.FnH P w K mg base CX0 1 f fd ["_law_one", "_law_two"] (spSame 0) := by
  refine RN.okH F scSame (fun vs H Q E h => ?_) (fun cdv A outer s H vs Q E p0 h => ?_)
  · obtain ⟨x, y, rfl, _⟩ := h; rfl
  · obtain ⟨x, y, rfl, ⟨rfl, hv⟩, q⟩ := h
    refine ⟨_, PSs.nox (pss_cons (ps_if (pt_val (pe_callB call_isi (by rfl) B.isi (by decide +kernel) (pa_cons (pv 1) (pa_cons (pe_bltn (v := .ty "int") (by rfl) B.int (by decide +kernel) rfl) pa_nil))))
      (pss_one (ps_ret (pe_and (pe_callB call_isi (by rfl) B.isi (by decide +kernel) (pa_cons (pv 0) (pa_cons (pe_bltn (v := .ty "int") (by rfl) B.int (by decide +kernel) rfl) pa_nil))) (pe_and (pe_not (pe_callB call_isi (by rfl) B.isi (by decide +kernel) (pa_cons (pv 0) (pa_cons (pe_bltn (v := .ty "bool") (by rfl) B.bool (by decide +kernel) rfl) pa_nil)))) (pe_one (pe_cmpR op_eq (pv 0) (pv 1) (nomark _)))))))
      pss_nil)
      (pss_cons (ps_if (pt_val (pe_callB call_isi (by rfl) B.isi (by decide +kernel) (pa_cons (pv 1) (pa_cons (pe_bltn (v := .ty "str") (by rfl) B.str (by decide +kernel) rfl) pa_nil))))
      (pss_one (ps_ret (pe_and (pe_callB call_isi (by rfl) B.isi (by decide +kernel) (pa_cons (pv 0) (pa_cons (pe_bltn (v := .ty "str") (by rfl) B.str (by decide +kernel) rfl) pa_nil))) (pe_one (pe_cmpR op_eq (pv 0) (pv 1) (nomark _))))))
      pss_nil)
      (pss_cons ps_never (pss_cons ps_never (pss_cons ps_never (pss_cons ps_never (pss_one ps_never))))))), ?_⟩
    rcases hv with ⟨z, rfl⟩ | ⟨i, rfl⟩
    · refine ⟨.str z, rfl, .str z, .ty "int", .type "str", .type "int", false, rfl, .ty "int", ty_txt, kit_ty (by decide +kernel), _, rfl, iteF ?_⟩
      refine ⟨.str z, rfl, .str z, .ty "str", .type "str", .type "str", true, rfl, .ty "str", ty_txt, kit_ty (by decide +kernel), _, rfl, iteT ?_⟩
      refine ⟨.str z, rfl, .str z, .ty "str", .type "str", .type "str", true, rfl, .ty "str", ty_txt, kit_ty (by decide +kernel), _, rfl, iteT ?_⟩
      refine ⟨.str z, rfl, .str z, rfl, rfl, ?_⟩
      rw [decide_eq_true rfl]; exact q
    · refine ⟨.int i, rfl, .int i, .ty "int", .type "int", .type "int", true, rfl, .ty "int", .base (.int i), kit_ty (by decide +kernel), _, rfl, iteT ?_⟩
      refine ⟨.int i, rfl, .int i, .ty "int", .type "int", .type "int", true, rfl, .ty "int", .base (.int i), kit_ty (by decide +kernel), _, rfl, iteT ?_⟩
      refine ⟨.int i, rfl, .int i, .ty "bool", .type "int", .type "bool", false, rfl, .ty "bool", .base (.int i), kit_ty (by decide +kernel), _, rfl, _, rfl, iteT ?_⟩
      refine ⟨.int i, rfl, .int i, rfl, rfl, ?_⟩
      rw [decide_eq_true rfl]; exact q
/-! ### _law_refused -/
structure Errs (K : PySem.W.Frag) (mg : Str → Option Value) (CB CL CO : Addr) : Prop where
  gL : mg "LaidError" = some (.ref CL)
  gO : mg "BadOutline" = some (.ref CO)
  exB : ExcC K CB
  bb : PySem.W.exmOne K (.ref CB) (.ref CB) = some true
  kL : PySem.W.kitOne K (.ref CB) (.ref CL) = some true
  kV : PySem.W.kitOne K (.ref CB) (.type "ValueError") = some true
  kO : PySem.W.kitOne K (.ref CB) (.ref CO) = some false
def spRefused : Sp := fun vs H Q _ => ∃ (a r : Addr) (nm : Str) (h b : Int) (rl : Addr) (rs out : List Rw), vs = [.ref a, .ref r] ∧ PlanAt H a nm h b rl rs ∧ RowsAt H r out ∧ out.length ≤ 100 ∧ ∀ H', Same H H' → Q (.bl true) H'
abbrev nRf : List Str := ["_law_plan_here", "_law_rows", "_law_bad", "_law_face", "e"]
theorem scRefused : FnScope nRf ["_law_plan_here", "_law_rows"] (defScope sRefused) := ⟨rfl, rfl, rfl, by decide +kernel, rfl, by decide +kernel, by decide +kernel⟩
theorem ok_refused {f C CB CL CO fI f_init f_len f_same f_first_bad : Addr} {fd fdI fd_init fd_len fd_same fd_first_bad : FuncData} (B : Blt mg) (T : Fce K mg C) (M : Mk K C f_init) (N : BadF K mg CB fI fdI) (R : Errs K mg CB CL CO) (F : Fun K "_law_refused" "_law_refused" sRefused f fd)
    (G_init : FnOk P w K mg base (L2N.CX P w) 3 f_init fd_init pIn (spInit C CB)) (b_init : Binds K fd_init pIn [])
    (m_len : PySem.W.findIn K (.ref C) "__len__" = some (some (.ref f_len)) ∧ PySem.W.typeIn K (.ref f_len) = some (.type "function")) (G_len : FnOk P w K mg base CX0 1 f_len fd_len ["self"] (spLen C)) (b_len : Binds K fd_len ["self"] [])
    (F_same : Fun K "_law_same" "_law_same" sSame f_same fd_same) (b_same : Binds K fd_same ["_law_one", "_law_two"] []) (g_same : mg "_law_same" = some (.ref f_same))
    (F_first_bad : Fun K "_law_first_bad" "_law_first_bad" sFirst f_first_bad fd_first_bad) (b_first_bad : Binds K fd_first_bad ["_law_rows"] []) (g_first_bad : mg "_law_first_bad" = some (.ref f_first_bad)) :
    FnOk P w K mg base CX0 5 f fd ["_law_plan_here", "_law_rows"] spRefused := by
  have G_same : L2H.FnH P w K mg base CX0 1 f_same fd_same ["_law_one", "_law_two"] (spSame 0) := ok_sameH B F_same
  have G_first_bad : FnOk P w K mg base CX0 1 f_first_bad fd_first_bad ["_law_rows"] spFirst := ok_first F_first_bad
  have xB : XfC K CB := ⟨R.exB.hg, R.exB.hk, R.exB.hs, R.exB.hd⟩
  refine F.ok scRefused (fun vs H Q E h => ?_) (fun cdv A0 outer s H vs Q E hr h => ?_)
  · obtain ⟨a, r, nm, h, b, rl, rs, out, rfl, _⟩ := h; rfl
  · obtain ⟨a, r, nm, h, b, rl, rs, out, rfl, hp, hout, hlo, q⟩ := h
    have hr1 : Room 1 _ := hr.mono (by decide)
    have hr2 : Room 2 _ := hr.mono (by decide)
    refine ⟨_, pss_cons (ps_set (i := 2) scRefused.nd rfl (.inl rfl) (pe_call G_first_bad hr1 (by rfl) g_first_bad F_first_bad.kp b_first_bad .nil pass0 (pa_cons (pv 1) pa_nil)))
      (pss_cons (L2N.ps_try_as (i := 4) (Wout := fun _ _ _ _ => False) (ts := fun a cls d => _) rfl rfl scRefused.nd rfl rfl ⟨rfl, by decide, .inl N.gC⟩ RN.takes0N
        (fun W pn xe tk _ => pss_one (ps_set (i := 3) scRefused.nd rfl (.inl rfl) (R6.pe_makeS M G_init hr (by rfl) T.mgC b_init .nil (fun σ => L2N.passAt tk σ)
          (pa_cons (pe_ix (show IxR _ (rIxL K) from ix_list) (pv 0) pe_int (fun _ _ => rfl)) (pa_cons (pe_ix (show IxR _ (rIxL K) from ix_list) (pv 0) pe_int (fun _ _ => rfl)) (pa_cons (pe_ix (show IxR _ (rIxL K) from ix_list) (pv 0) pe_int (fun _ _ => rfl)) (pa_cons (pe_callTy (show CallR _ (.type "list") (fun xs H Q => ∃ p ys, xs = [.ref p] ∧ (SqL K H p ys ∨ SqT K H p ys) ∧ ∀ l, H l = none → Q (.ref l) (upd H l (.lst ys))) from call_list_of) (by rfl) B.list (by decide +kernel) (pa_cons (pv 1) pa_nil)) pa_nil)))))))
        (fun a oe cls d pn hz hf => pss_cons (ps_if (PW.pt (pw_or (pt_not (pt_val (pe_callB (call_isD R.exB hz.zc hf) (by rfl) B.isi (by decide +kernel) (pa_cons (pv 4) (pa_cons (pe_glob (v := .ref CL) (by rfl) R.gL rfl) pa_nil))))) (pw_or (pt_not (pt_val (pe_callB (call_isD R.exB hz.zc hf) (by rfl) B.isi (by decide +kernel) (pa_cons (pv 4) (pa_cons (pe_bltn (v := .ty "ValueError") (by rfl) B.ve (by decide +kernel) rfl) pa_nil))))) (pw_or1 (pt_val (pe_callB (call_isD R.exB hz.zc hf) (by rfl) B.isi (by decide +kernel) (pa_cons (pv 4) (pa_cons (pe_glob (v := .ref CO) (by rfl) R.gO rfl) pa_nil)))))))) (pss_one (ps_ret pe_bl)) pss_nil)
          (pss_one (ps_ret (pe_and (pe_cmpR op_ne (pv 2) pe_str (nomark _)) (pe_one (L2H.pe_callH (E := fun _ => E0) G_same ⟨hr1.dp, hr1.un⟩ ⟨(a, oe), ⟨rfl, let ⟨vs, hv⟩ := hf; ⟨vs, hv, hz.2.2 vs hv⟩⟩, List.mem_cons_self⟩ (by rfl) g_same F_same.kp b_same (fun _ _ _ _ _ _ _ c => c.elim) (pa_cons (pe_xf xB N.fp hz.zc hf (pv 4)) (pa_cons (pv 2) pa_nil)))))))))
      (pss_one (ps_ret (pe_and (pe_cmpR op_eq (pv 2) pe_str (nomark _)) (pe_one (pe_cmpR op_eq (pe_callB (RO.call_lenOwn m_len.1 m_len.2 G_len b_len hr2) (by rfl) B.len PySem.boot_len (pa_cons (pv 3) pa_nil)) (pe_callB call_len (by rfl) B.len PySem.boot_len (pa_cons (pv 1) pa_nil)) (nomark _))))))), ?_⟩
    refine ⟨.ref r, rfl, r, out, rfl, hout, hlo, fun H1 s1 => ?_⟩
    obtain ⟨ha, _, _, _⟩ := hp.same s1
    have hout1 := hout.same s1
    refine ⟨.ref a, rfl, a, _, 0, .str nm, rfl, rfl, SqL.of ha, rfl, .ref a, rfl, a, _, 1, .int h, rfl, rfl, SqL.of ha, rfl, .ref a, rfl, a, _, 2, .int b, rfl, rfl, SqL.of ha, rfl, .ref r, rfl, r, _, rfl, .inl (SqL.of hout1.1), fun l nl => ?_⟩
    have s2 := same_new nl (o := .lst (rv out))
    have hl : (upd H1 l (.lst (rv out))) l = some (.lst (rv out)) := upd_same
    generalize upd H1 l (.lst (rv out)) = H2 at s2 hl ⊢
    have hout2 := hout1.same s2
    have s12 := s1.trans s2
    refine fun p dx np ndx hne => ?_
    have sM : Same H2 (upd (upd H2 dx (.own p)) p (.ins C dx [])) := made_up np ndx
    refine ⟨p, dx, l, nm, h, b, out, rfl, upd_same, ⟨sM _ _ hl, (hout2.same sM).2⟩, hlo, fun c hb H3 d hk hd => ?_, fun hb H3 hk hF => ⟨rfl, ?_⟩⟩
    · have s3 : Same H2 H3 := made_same np ndx hk
      have sd := s12.trans (s3.trans (same_new hd (o := .xd [("sign", .str (sg c))])))
      have hbT : badT out = sg c := by unfold badT; rw [hb]
      rw [hbT]
      refine ⟨true, R.bb, fun _ e he => ?_, fun z => nomatch z⟩
      refine ⟨.ref e, rfl, .ref CL, .ref CL, true, d, _, rfl, rfl, fun u hu => hu, R.kL, rfl, upd_same, _, rfl, iteF ?_⟩
      refine ⟨.ref e, rfl, .ty "ValueError", .type "ValueError", true, d, _, rfl, rfl, fun u hu => hu, R.kV, rfl, upd_same, _, rfl, iteF ?_⟩
      refine ⟨.ref e, rfl, .ref CO, .ref CO, false, d, _, rfl, rfl, fun u hu => hu, R.kO, rfl, upd_same, _, rfl, iteF ?_⟩
      refine ⟨.str (sg c), rfl, rfl, _, rfl, ?_⟩
      rw [decide_eq_false (sg_no c)]
      exact iteT ⟨.ref e, rfl, rfl, rfl, d, _, .str (sg c), rfl, upd_same, rfl, .str (sg c), rfl, _, _, rfl, ⟨rfl, .inl ⟨_, rfl⟩⟩, q _ sd⟩
    · have s3 : Same H2 H3 := made_same np ndx hk
      have s13 := s12.trans s3
      have hbT : badT out = Str.ofString "" := by unfold badT; rw [hb]
      rw [hbT]
      obtain ⟨dx', d', fs, es, h1, h2, h3, h4, h5, h6, h7, h8, h9, h10⟩ := id hF
      have el : es.length = out.length := by rw [← h7, List.length_map]
      have lk : (kvE es).length ≤ sizeLine := by rw [kvE_len]; exact Nat.le_of_lt (small1000 (by omega))
      refine ⟨.str (Str.ofString ""), rfl, rfl, _, rfl, ?_⟩
      rw [decide_eq_true rfl]
      refine iteT ⟨.ref p, rfl, p, dx', fs, (kvE es).length, rfl, h1, lk, ⟨p, dx', d', fs, kvE es, rfl, h1, h5, .inl h6, rfl, rfl⟩, .ref r, rfl, .ref r, _, rfl, .inl ⟨_, SqL.of (s3 _ _ hout2.1), rfl⟩, rfl, ?_⟩
      rw [kvE_len, el, rv_len, decide_eq_true rfl]
      exact q _ s13
end
end K24

set_option maxRecDepth 100000
set_option maxHeartbeats 16000000
namespace K24
open PySem PySem.Spec PyProof.Rows L2
theorem passNN {X : Cx} : Passes (L2N.CX X.prog X.w) X E0 := fun _ _ _ _ _ _ _ h => by
  obtain ⟨_, _, _, _, _, _, _, _, _, _, _, _, z⟩ := h
  exact z.elim
theorem dp_all {K : PySem.W.Frag} {H : Hp} {n : Nat} : ∀ {xs : List V}, (∀ v ∈ xs, ∃ d, Dp K H v d ∧ d.canLay0 = true ∧ d.depth ≤ n) → ∃ ds, DpAll K H xs ds ∧ PyData.canLayAll0 ds = true ∧ PyData.depthAll ds ≤ n
  | [], _ => ⟨[], .nil, rfl, Nat.zero_le _⟩
  | x :: xs, h => by
    obtain ⟨d, h1, h2, h3⟩ := h x List.mem_cons_self
    obtain ⟨ds, k1, k2, k3⟩ := dp_all (xs := xs) fun v hv => h v (List.mem_cons_of_mem _ hv)
    refine ⟨d :: ds, .cons h1 k1, ?_, ?_⟩
    · show (d.canLay0 && PyData.canLayAll0 ds) = true
      rw [h2, k2]; rfl
    · show max d.depth (PyData.depthAll ds) ≤ n
      omega
theorem dp_tup {K : PySem.W.Frag} {H : Hp} : ∀ {n : Nat} {v : V}, TupV n H v → ∃ d, Dp K H v d ∧ d.canLay0 = true ∧ d.depth ≤ n
  | 0, _, ⟨i, e⟩ => ⟨.int i, by rw [e]; exact .int i, rfl, Nat.zero_le _⟩
  | n + 1, _, .inl ⟨i, e⟩ => ⟨.int i, by rw [e]; exact .int i, rfl, Nat.zero_le _⟩
  | n + 1, _, .inr ⟨a, xs, e, h1, _, h3⟩ => by
    obtain ⟨ds, k1, k2, k3⟩ := dp_all (K := K) fun v hv => dp_tup (h3 v hv)
    refine ⟨.tuple ds, by rw [e]; exact .tup (SqT.of h1) k1, k2, ?_⟩
    show PyData.depthAll ds + 1 ≤ n + 1
    omega
theorem eqv_refl' {d : PyData} (h : SeqAt.shaped d = true) : PyData.eqv d d = true := SeqAt.eqv_refl d (SeqAt.canLay_of_shaped h)
theorem dp_rows {K : PySem.W.Frag} {H : Hp} {rs : List Rw} (h : ∀ r ∈ rs, RowT H r) (ok : ∀ c ∈ cs rs, okC c) : ∃ ds, DpAll K H (rv rs) ds ∧ SeqAt.shaped (.list ds) = true := by
  obtain ⟨ds, k1, k2, k3⟩ := dp_all (K := K) (H := H) (n := 4) (xs := rv rs) fun v hv => by
    obtain ⟨r, hr, rfl⟩ := List.mem_map.mp hv
    obtain ⟨h1, h2, _⟩ := h r hr
    obtain ⟨d, e1, e2, e3⟩ := dp_tup (K := K) h2
    have hc : okC r.c := ok r.c (List.mem_map.mpr ⟨r, hr, rfl⟩)
    refine ⟨.tuple [.str (sg r.c), .int r.n, d], .tup (SqT.of h1) (.cons (.str _) (.cons (.int _) (.cons e1 .nil))), ?_, ?_⟩
    · show (PyData.canLay0 (.str (sg r.c)) && (true && (d.canLay0 && true))) = true
      rw [e2]
      have : PyData.canLay0 (.str (sg r.c)) = true := by
        show (#[r.c] : Array Nat).all (· < 0x110000) = true
        have h3 : r.c < 128 := hc
        simp; omega
      rw [this]; rfl
    · show max 0 (max 0 (max d.depth 0)) + 1 ≤ 4
      omega
  refine ⟨ds, k1, ?_⟩
  show (PyData.canLayAll0 ds && decide (PyData.depthAll ds + 1 ≤ 64)) = true
  rw [k2, decide_eq_true (by omega)]; rfl
theorem cutV_upto (xs : List V) (n : Nat) : cutV xs none (some (n : Int)) = xs.take n := by
  by_cases h : n ≤ xs.length
  · exact cutV_to xs h
  · unfold cutV
    rw [HT.sIx_none, HT.sIx_nat, Nat.min_eq_right (by omega), List.take_of_length_le (by omega : xs.length ≤ n)]
    show (xs.drop 0).take (xs.length - 0) = _
    rw [List.drop_zero, Nat.sub_zero, List.take_length]
theorem FA.but {C : Addr} {H H' : Hp} {g p : Addr} {xs : List V} {nm : Str} {h b : Int} {rs : List Rw} (f : FA C H p nm h b rs) (hg : H g = some (.lst xs)) (s : ∀ x o, x ≠ g → H x = some o → H' x = some o) : FA C H' p nm h b rs := by
  obtain ⟨dx, d, fs, es, h1, h2, h3, h4, h5, h6, h7, h8, h9⟩ := f
  have kp : Kp H H' := Kp.but hg (fun z => z) s
  exact ⟨dx, d, fs, es, s _ _ (ne_of h1 hg (fun z => nomatch z)) h1, h2, h3, h4, h5, s _ _ (ne_of h6 hg (fun z => nomatch z)) h6, h7, fun e he => (h8 e he).kp kp, h9⟩
section
variable {P : Program} {w : World} {K : PySem.W.Frag} {mg : Str → Option Value} {base : Heap} {t1 : Tok}
def lim8 : List Int := [3, 4, 3, 4, 41, 40, 9, 42]
abbrev nLaw : List Str := ["_law_script", "_law_plan_here", "_law_other", "_law_row_here", "_law_text", "_law_long", "_law_given", "_law_taken", "_law_face", "_law_second", "_law_turn", "_law_way", "_law_cell_here"]
theorem scLaw : FnScope nLaw ["_law_script"] (defScope sLaw) := ⟨rfl, rfl, rfl, by decide +kernel, rfl, by decide +kernel, by decide +kernel⟩
def spLaw (K : PySem.W.Frag) : Sp := fun vs H Q _ => ∃ (a : Addr) (ns : List Int), vs = [.ref a] ∧ SqL K H a (ns.map V.int) ∧ ns.length ≤ 63 ∧ ∀ H', Q (.bl true) H'
theorem ok_law {C CB CL CO f f_cell f_row f_plan f_string f_outline f_spoilt f_first_bad f_refused f_right f_init fi fl fh fa fo fc fs fg fla fd fw fI : Addr} {fdz fd_cell fd_row fd_plan fd_string fd_outline fd_spoilt fd_first_bad fd_refused fd_right fd_init di dl dh da do' dc ds dg dla dd dw fdI : FuncData}
    (B : Blt mg) (Z : Cst mg t1) (T : Fce K mg C) (M : Mk K C f_init) (N : BadF K mg CB fI fdI) (R : Errs K mg CB CL CO) (F : Fun K "law" "law" sLaw f fdz)
    (O : Ops P w K mg base C fi fl fh fa fo fc fs fg fla fd fw di dl dh da do' dc ds dg dla dd dw)
    (F_init : Fun K "__init__" "Face.__init__" sInit f_init fd_init) (b_init : Binds K fd_init pIn [])
    (F_cell : Fun K "_law_cell" "_law_cell" sCell f_cell fd_cell) (b_cell : Binds K fd_cell ["_law_script", "_law_k"] []) (g_cell : mg "_law_cell" = some (.ref f_cell))
    (F_row : Fun K "_law_row" "_law_row" sRow f_row fd_row) (b_row : Binds K fd_row ["_law_cell_here", "_law_limits"] []) (g_row : mg "_law_row" = some (.ref f_row))
    (F_outline : Fun K "_law_outline" "_law_outline" sOutline f_outline fd_outline) (b_outline : Binds K fd_outline ["_law_many", "_law_pick"] []) (g_outline : mg "_law_outline" = some (.ref f_outline))
    (F_plan : Fun K "_law_plan" "_law_plan" sPlan f_plan fd_plan) (b_plan : Binds K fd_plan ["_law_cell_here"] []) (g_plan : mg "_law_plan" = some (.ref f_plan))
    (F_string : Fun K "_law_string" "_law_string" sString f_string fd_string) (b_string : Binds K fd_string ["_law_cell_here", "_law_rows"] []) (g_string : mg "_law_string" = some (.ref f_string))
    (F_spoilt : Fun K "_law_spoilt" "_law_spoilt" sSpoilt f_spoilt fd_spoilt) (b_spoilt : Binds K fd_spoilt ["_law_rows", "_law_way", "_law_draws"] []) (g_spoilt : mg "_law_spoilt" = some (.ref f_spoilt))
    (F_first_bad : Fun K "_law_first_bad" "_law_first_bad" sFirst f_first_bad fd_first_bad) (b_first_bad : Binds K fd_first_bad ["_law_rows"] []) (g_first_bad : mg "_law_first_bad" = some (.ref f_first_bad))
    (F_refused : Fun K "_law_refused" "_law_refused" sRefused f_refused fd_refused) (b_refused : Binds K fd_refused ["_law_plan_here", "_law_rows"] []) (g_refused : mg "_law_refused" = some (.ref f_refused))
    (F_right : Fun K "_law_right" "_law_right" sRight f_right fd_right) (b_right : Binds K fd_right pRi []) (g_right : mg "_law_right" = some (.ref f_right)) :
    FnOk P w K mg base CX0 6 f fdz ["_law_script"] (spLaw K) := by
  have G_right := ok_right (P := P) (w := w) B T F_right O
  obtain ⟨IC, m_iter, G_iter, b_iter, m_len, G_len, b_len, m_has, G_has, b_has, m_advance, G_advance, b_advance, m_outline, G_outl, b_outl, m_call, F_call, G_call, F_same, b_same, g_same, F_signs, b_signs, g_signs, F_ladv, b_ladv, g_ladv, F_drawn, b_drawn, g_drawn, F_width, b_width, g_width⟩ := O
  have G_same := ok_same0 (P := P) (w := w) (base := base) B F_same
  have G_signs : FnOk P w K mg base CX0 1 fg dg [] spSigns := ok_signs F_signs
  have G_width : FnOk P w K mg base CX0 2 fw dw pWi spWidth := ok_width B F_width F_ladv b_ladv g_ladv
  have G_init : FnOk P w K mg base (L2N.CX P w) 3 f_init fd_init pIn (spInit C CB) := ok_finit Z T N F_init
  have G_cell : FnOk P w K mg base CX0 1 f_cell fd_cell ["_law_script", "_law_k"] (spCell K) := ok_cell B F_cell
  have G_row : FnOk P w K mg base CX0 1 f_row fd_row ["_law_cell_here", "_law_limits"] (spRow K) := ok_row B F_row
  have G_plan : FnOk P w K mg base CX0 2 f_plan fd_plan ["_law_cell_here"] spPlan := ok_plan B F_plan F_row b_row g_row F_signs b_signs g_signs F_outline b_outline g_outline
  have G_string : FnOk P w K mg base CX0 2 f_string fd_string ["_law_cell_here", "_law_rows"] spString := ok_string B F_string F_row b_row g_row F_signs b_signs g_signs
  have G_spoilt : FnOk P w K mg base CX0 1 f_spoilt fd_spoilt ["_law_rows", "_law_way", "_law_draws"] spSpoilt := ok_spoilt B F_spoilt
  have G_refused : FnOk P w K mg base CX0 5 f_refused fd_refused ["_law_plan_here", "_law_rows"] spRefused := ok_refused B T M N R F_refused G_init b_init m_len G_len b_len F_same b_same g_same F_first_bad b_first_bad g_first_bad
  obtain ⟨x1, v1, b1⟩ := call_b1 F_call
  refine F.ok scLaw (fun vs H Q E h => ?_) (fun cdv A0 outer s H vs Q E hr h => ?_)
  · obtain ⟨a, ns, rfl, _⟩ := h; rfl
  · obtain ⟨a, ns, rfl, hS, hns, q⟩ := h
    have hr1 : Room 1 _ := hr.mono (by decide)
    have hr2 : Room 2 _ := hr.mono (by decide)
    have hr4 : Room 4 _ := hr.mono (by decide)
    refine ⟨_, (pss_cons (ps_par (i := 1) (j := 2) (by rfl) scLaw.nd rfl rfl (by decide) rfl rfl (pa_cons (pe_call G_plan hr2 (by rfl) g_plan F_plan.kp b_plan .nil pass0 (pa_cons (pe_call G_cell hr1 (by rfl) g_cell F_cell.kp b_cell .nil pass0 (pa_cons (pv 0) (pa_cons pe_int pa_nil))) pa_nil)) (pa_cons (pe_call G_plan hr2 (by rfl) g_plan F_plan.kp b_plan .nil pass0 (pa_cons (pe_op op_add (pe_call G_cell hr1 (by rfl) g_cell F_cell.kp b_cell .nil pass0 (pa_cons (pv 0) (pa_cons pe_int pa_nil))) pe_int) pa_nil)) pa_nil)) (by rfl))
      (pss_cons (ps_set (i := 3) scLaw.nd rfl (.inl rfl) (pe_call G_row hr1 (by rfl) g_row F_row.kp b_row .nil pass0 (pa_cons (pe_call G_cell hr1 (by rfl) g_cell F_cell.kp b_cell .nil pass0 (pa_cons (pv 0) (pa_cons pe_int pa_nil))) (pa_cons (pe_lst (pa_cons pe_int (pa_cons pe_int (pa_cons pe_int (pa_cons pe_int (pa_cons pe_int (pa_cons pe_int (pa_cons pe_int (pa_cons pe_int pa_nil))))))))) pa_nil))))
      (pss_cons (ps_set (i := 4) scLaw.nd rfl (.inl rfl) (pe_call G_string hr2 (by rfl) g_string F_string.kp b_string .nil pass0 (pa_cons (pe_op op_add (pe_call G_cell hr1 (by rfl) g_cell F_cell.kp b_cell .nil pass0 (pa_cons (pv 0) (pa_cons pe_int pa_nil))) pe_int) (pa_cons (pe_ix ix_list (pv 1) pe_int (fun _ _ => rfl)) pa_nil))))
      (pss_cons (ps_set (i := 5) scLaw.nd rfl (.inl rfl) (pe_join pe_str (pe_lc (own := [("_law_cell_here", 12)]) (g := gName 12) (tt := tYes) rfl scLaw.nd (pi_list (pv 0)) (blkOk_by (N := nLaw) (sc := defScope sLaw) (by decide +kernel)) (fun _ _ _ _ _ => (pg_name (i := 12) scLaw.nd rfl (.inl rfl))) (fun _ _ _ _ _ => pts_nil) (fun _ _ _ _ _ => (pe_ix ix_str (pe_call0 G_signs hr1 (by rfl) g_signs F_signs.kp b_signs .nil pass0) (pe_op op_modN (pe_callTy call_int1 (by rfl) B.int (by decide +kernel) (pa_cons (pv 12) pa_nil)) pe_int) (fun _ _ => rfl))))))
      (pss_cons (ps_par (i := 6) (j := 7) (by rfl) scLaw.nd rfl rfl (by decide) rfl rfl (pa_cons (pe_callTy call_list_of (by rfl) B.list (by decide +kernel) (pa_cons (pe_ix ix_list (pv 1) pe_int (fun _ _ => rfl)) pa_nil)) (pa_cons (pe_callTy call_list_of (by rfl) B.list (by decide +kernel) (pa_cons (pe_ix ix_list (pv 2) pe_int (fun _ _ => rfl)) pa_nil)) pa_nil)) (by rfl))
      (pss_cons (ps_par (i := 8) (j := 9) (by rfl) scLaw.nd rfl rfl (by decide) rfl rfl (pa_cons (pe_make M G_init hr4 (by rfl) T.mgC b_init .nil passNN (pa_cons (pe_ix ix_list (pv 1) pe_int (fun _ _ => rfl)) (pa_cons (pe_ix ix_list (pv 1) pe_int (fun _ _ => rfl)) (pa_cons (pe_ix ix_list (pv 1) pe_int (fun _ _ => rfl)) (pa_cons (pv 6) pa_nil))))) (pa_cons (pe_make M G_init hr4 (by rfl) T.mgC b_init .nil passNN (pa_cons (pe_ix ix_list (pv 2) pe_int (fun _ _ => rfl)) (pa_cons (pe_ix ix_list (pv 2) pe_int (fun _ _ => rfl)) (pa_cons (pe_ix ix_list (pv 2) pe_int (fun _ _ => rfl)) (pa_cons (pv 7) pa_nil))))) pa_nil)) (by rfl))
      (pss_cons (ps_if (PW.pt (pw_or (pt_cmpR (op_neD hr.units) (pv 6) (pe_ix ix_list (pv 1) pe_int (fun _ _ => rfl)) (nomark _)) (pw_or1 (pt_cmpR (op_neD hr.units) (pv 7) (pe_ix ix_list (pv 2) pe_int (fun _ _ => rfl)) (nomark _)))))
      (pss_one (ps_ret pe_bl))
      pss_nil)
      (pss_cons (ps_expr (pe_bm0 PySem.F.plainAttrs_list PySem.F.slot_list_clear PySem.F.type_list_clear mt_clear (pv 6)))
      (pss_cons (ps_expr (pe_bm PySem.F.plainAttrs_list PySem.F.slot_list_append PySem.F.type_list_append mt_append (pv 7) (pa_cons (pe_tup (pa_cons pe_str (pa_cons pe_int (pa_cons (pe_tup pa_nil) pa_nil)))) pa_nil)))
      (pss_cons (ps_for (PassesOwn.never) rfl (pi_range1 (by rfl) B.range (pa_cons pe_int pa_nil)) (pg_name (i := 10) scLaw.nd rfl (.inl rfl))
      (pss_cons (ps_if (pt_not (pt_val (pe_call G_right hr (by rfl) g_right F_right.kp b_right .nil pass0 (pa_cons (pv 8) (pa_cons (pv 1) (pa_cons (pv 4) (pa_cons (pe_op op_add (pe_ix ix_list (pv 3) pe_int (fun _ _ => rfl)) pe_int) (pa_cons (pe_ix ix_list (pv 3) pe_int (fun _ _ => rfl)) pa_nil))))))))
       (pss_one (ps_ret pe_bl))
       pss_nil)
       (pss_cons (ps_if (pt_not (pt_val (pe_call G_right hr (by rfl) g_right F_right.kp b_right .nil pass0 (pa_cons (pv 9) (pa_cons (pv 2) (pa_cons (pv 5) (pa_cons (pe_op op_add (pe_ix ix_list (pv 3) pe_int (fun _ _ => rfl)) pe_int) (pa_cons (pe_ix ix_list (pv 3) pe_int (fun _ _ => rfl)) pa_nil))))))))
       (pss_one (ps_ret pe_bl))
       pss_nil)
       (pss_cons (ps_if (pt_not (pt_val (pe_call G_same hr1 (by rfl) g_same F_same.kp b_same .nil pass0 (pa_cons (StX.pe_callO (pv 8) m_call (FnOk.raw G_call b1 v1) hr2 pass0 (pa_cons (pv 5) pa_nil)) (pa_cons (pe_call G_width hr2 (by rfl) g_width F_width.kp b_width .nil pass0 (pa_cons (pv 1) (pa_cons (pv 5) (pa_cons pe_int (pa_cons pe_int pa_nil))))) pa_nil)))))
       (pss_one (ps_ret pe_bl))
       pss_nil)
       (pss_one (ps_for (PassesOwn.never) rfl (pi_list (pe_lst (pa_cons pe_int (pa_cons pe_int (pa_cons pe_int pa_nil))))) (pg_name (i := 11) scLaw.nd rfl (.inl rfl))
       (pss_one (ps_if (pt_not (pt_val (pe_call G_refused hr (by rfl) g_refused F_refused.kp b_refused .nil pass0 (pa_cons (pv 1) (pa_cons (pe_call G_spoilt hr1 (by rfl) g_spoilt F_spoilt.kp b_spoilt .nil pass0 (pa_cons (pe_slice sl_list (pe_ix ix_list (pv 1) pe_int (fun _ _ => rfl)) po_none (po_some pe_int)) (pa_cons (pv 11) (pa_cons (pe_slice sl_list (pv 3) (po_some pe_int) po_none) pa_nil)))) pa_nil)))))
        (pss_one (ps_ret pe_bl))
        pss_nil))))))))
      (pss_one (ps_ret (pe_and (pe_call G_refused hr (by rfl) g_refused F_refused.kp b_refused .nil pass0 (pa_cons (pv 1) (pa_cons (pe_ix ix_list (pv 1) pe_int (fun _ _ => rfl)) pa_nil))) (pe_one (pe_call G_right hr (by rfl) g_right F_right.kp b_right .nil pass0 (pa_cons (pv 8) (pa_cons (pv 1) (pa_cons (pv 5) (pa_cons (pe_op op_add (pe_ix ix_list (pv 3) pe_int (fun _ _ => rfl)) pe_int) (pa_cons (pe_ix ix_list (pv 3) pe_int (fun _ _ => rfl)) pa_nil)))))))))))))))))))), ?_⟩
    refine ⟨.ref a, rfl, a, ns, 0, rfl, hS, hns, by decide, fun c1 => ⟨c1, rfl, fun H1 a1 nm1 h1 bk1 rl1 rs1 s1 p1 => ?_⟩⟩
    refine ⟨.ref a, rfl, a, ns, 1, rfl, s1.seq hS, hns, by decide, fun c2 => ⟨c2, 7919, rfl, rfl, _, rfl, fun H2 a2 nm2 h2 bk2 rl2 rs2 s2 p2 => ⟨_, _, rfl, ?_⟩⟩⟩
    have p1 := p1.same s2
    have sA := s1.trans s2
    clear s1 s2
    refine ⟨.ref a, rfl, a, ns, 2, rfl, sA.seq hS, hns, by decide, fun c3 => ⟨by show 8 ≤ sizeLine; decide, fun l1 nl1 => ?_⟩⟩
    have s3 := same_new nl1 (o := .lst (lim8.map V.int))
    have hl1 : (upd H2 l1 (.lst (lim8.map V.int))) l1 = some (.lst (lim8.map V.int)) := upd_same
    refine ⟨c3, l1, lim8, rfl, SqL.of hl1, by decide, by decide, fun H3 R rs s4 nR hR hrow => ?_⟩
    have p1 := p1.same (s3.trans s4)
    have p2 := p2.same (s3.trans s4)
    have sA := sA.trans (s3.trans s4)
    clear s3 s4 hl1 nl1 nR
    obtain ⟨g0, e0, g00, g01⟩ := hrow.2 0 3 rfl
    obtain ⟨g1, e1, g10, g11⟩ := hrow.2 1 4 rfl
    obtain ⟨g2, e2, g20, g21⟩ := hrow.2 2 3 rfl
    obtain ⟨g3, e3, g30, g31⟩ := hrow.2 3 4 rfl
    obtain ⟨g4, e4, g40, g41⟩ := hrow.2 4 41 rfl
    obtain ⟨g5, e5, g50, g51⟩ := hrow.2 5 40 rfl
    obtain ⟨g6, e6, g60, g61⟩ := hrow.2 6 9 rfl
    obtain ⟨g7, e7, g70, g71⟩ := hrow.2 7 42 rfl
    have hl8 : rs.length = 8 := hrow.1
    have ers : rs = [g0, g1, g2, g3, g4, g5, g6, g7] := by
      match rs, hl8, e0, e1, e2, e3, e4, e5, e6, e7 with
      | [_, _, _, _, _, _, _, _], _, e0, e1, e2, e3, e4, e5, e6, e7 => cases e0; cases e1; cases e2; cases e3; cases e4; cases e5; cases e6; cases e7; rfl
    rw [ers] at hR
    clear hrow e0 e1 e2 e3 e4 e5 e6 e7 hl8 ers
    refine ⟨.ref a, rfl, a, ns, 3, rfl, sA.seq hS, hns, by decide, fun c4 => ⟨c4, 101, rfl, rfl, .ref a1, rfl, a1, _, 3, .ref rl1, rfl, rfl, SqL.of p1.1, rfl, _, rl1, rs1, rfl, p1.2.1, p1.2.2.1, fun H4 z s5 hz => ?_⟩⟩
    have p1 := p1.same s5
    have p2 := p2.same s5
    have hR := s5 _ _ hR
    have sA := sA.trans s5
    clear s5
    -- the long text
    refine ⟨⟨_, rfl⟩, .ref a, rfl, a, rfl, ⟨_, sA.seq hS⟩, fun D hD => ?_⟩
    refine lc_list (K := K) (a := a) (xs := ns.map V.int) (fun i H' => ∃ cs : List Nat, H' D = some (.lst ((cs.map fun c => (⟨#[c]⟩ : Str)).map V.str)) ∧ cs.length = i ∧ Same H4 H') ⟨[], upd_same, rfl, same_new hD⟩ (fun i H' _ ⟨_, _, _, sm⟩ => (sA.trans sm).seq hS) ?_ ?_
    · rintro i x H' hi ⟨cs, hD', hl, sm⟩
      rw [List.getElem?_map] at hi
      cases en : ns[i]? with
      | none => rw [en] at hi; cases hi
      | some n =>
      rw [en] at hi; cases hi
      have hilt := (List.getElem?_eq_some_iff.mp en).1
      obtain ⟨ch, hch, _⟩ := pick (z := signs) (r := n.fmod 91) (Int.fmod_nonneg_of_pos _ (by decide)) (by rw [signs_len]; exact Int.fmod_lt_of_pos _ (by decide))
      refine ⟨rfl, rfl, .int n, rfl, .inl ⟨n, rfl, n, 91, rfl, rfl, (show (91 : Int) ≠ 0 by decide), signs, _, ch, rfl, rfl, by rw [signs_len]; decide, hch, _, hD', ?_, cs ++ [ch], ?_, ?_, same_at sm hD⟩⟩
      · rw [List.length_map, List.length_map]; exact small1000 (by omega)
      · rw [upd_same, List.map_append, List.map_append]; rfl
      · rw [List.length_append, hl]; rfl
    rintro H5 ⟨cs0, hD', hcl, sm⟩
    rw [List.length_map] at hcl
    refine ⟨_, D, _, rfl, rfl, .inl (SqL.of hD'), ?_, ?_⟩
    · rw [sum_ones, show (Str.ofString "").length = 0 by decide +kernel, Nat.mul_zero]; omega
    have hLen : (Txt.join (Str.ofString "") (cs0.map fun c => (⟨#[c]⟩ : Str))).length ≤ 1000 := by rw [← tl_len, join_ones]; omega
    generalize Txt.join (Str.ofString "") (cs0.map fun c => (⟨#[c]⟩ : Str)) = lg at hLen ⊢
    have p1 := p1.same sm
    have p2 := p2.same sm
    have hR := sm _ _ hR
    clear sm hD' hD sA hS
    refine ⟨.ref a1, rfl, a1, _, 3, .ref rl1, rfl, rfl, SqL.of p1.1, rfl, rl1, _, rfl, .inl (SqL.of p1.2.1.1), fun ga nga => ?_⟩
    have t1 := same_new nga (o := .lst (rv rs1))
    have hga : (upd H5 ga (.lst (rv rs1))) ga = some (.lst (rv rs1)) := upd_same
    generalize upd H5 ga (.lst (rv rs1)) = H6 at t1 hga ⊢
    refine ⟨.ref a2, rfl, a2, _, 3, .ref rl2, rfl, rfl, SqL.of (p2.same t1).1, rfl, rl2, _, rfl, .inl (SqL.of (p2.same t1).2.1.1), fun gb ngb => ⟨_, _, rfl, ?_⟩⟩
    have ngb5 : H5 gb = none := by
      cases e : H5 gb with
      | none => rfl
      | some o => have := t1 _ _ e; rw [ngb] at this; cases this
    have nab : ga ≠ gb := ne_of_none hga ngb
    have t2 := same_new ngb (o := .lst (rv rs2))
    have hgb : (upd H6 gb (.lst (rv rs2))) gb = some (.lst (rv rs2)) := upd_same
    have hga := t2 _ _ hga
    generalize upd H6 gb (.lst (rv rs2)) = H7 at t2 hgb hga ⊢
    have t3 : Same H5 H7 := t1.trans t2
    clear t1 t2 ngb
    have r1 := p1.same t3
    have r2 := p2.same t3
    refine ⟨.ref a1, rfl, a1, _, 0, .str nm1, rfl, rfl, SqL.of r1.1, rfl, .ref a1, rfl, a1, _, 1, .int h1, rfl, rfl, SqL.of r1.1, rfl, .ref a1, rfl, a1, _, 2, .int bk1, rfl, rfl, SqL.of r1.1, rfl, .ref ga, rfl, fun pa dxa npa ndxa _ => ?_⟩
    have sM := made_up (C := C) npa ndxa
    refine ⟨pa, dxa, ga, nm1, h1, bk1, rs1, rfl, upd_same, ⟨sM _ _ hga, (r1.2.1.same sM).2⟩, by have := r1.2.2.1; omega, (fun c hb => by rw [r1.2.2.2.1] at hb; cases hb), fun hb H8 hk hFa => ⟨rfl, ?_⟩⟩
    have t4 : Same H7 H8 := made_same npa ndxa hk
    clear sM hk hb npa ndxa
    have r2 := r2.same t4
    have hgb := t4 _ _ hgb
    have hga := t4 _ _ hga
    refine ⟨.ref a2, rfl, a2, _, 0, .str nm2, rfl, rfl, SqL.of r2.1, rfl, .ref a2, rfl, a2, _, 1, .int h2, rfl, rfl, SqL.of r2.1, rfl, .ref a2, rfl, a2, _, 2, .int bk2, rfl, rfl, SqL.of r2.1, rfl, .ref gb, rfl, fun pb dxb npb ndxb _ => ?_⟩
    have sM := made_up (C := C) npb ndxb
    refine ⟨pb, dxb, gb, nm2, h2, bk2, rs2, rfl, upd_same, ⟨sM _ _ hgb, (r2.2.1.same sM).2⟩, by have := r2.2.2.1; omega, (fun c hb => by rw [r2.2.2.2.1] at hb; cases hb), fun hb H9 hk hFb => ⟨rfl, _, _, rfl, ?_⟩⟩
    have t5 : Same H8 H9 := made_same npb ndxb hk
    clear sM hk hb npb ndxb
    have hFa := hFa.same t5
    have hga := t5 _ _ hga
    have hgb := t5 _ _ hgb
    have t9 : Same H5 H9 := t3.trans (t4.trans t5)
    clear t3 t4 t5 r1 r2
    have r1 := p1.same t9
    have r2 := p2.same t9
    obtain ⟨da, ka, sa⟩ := dp_rows (K := K) r1.2.1.2 r1.2.2.2.2
    obtain ⟨db, kb, sb⟩ := dp_rows (K := K) r2.2.1.2 r2.2.2.2.2
    refine ⟨.ref ga, rfl, .ref a1, rfl, a1, _, 3, .ref rl1, rfl, rfl, SqL.of r1.1, rfl, .list da, .list da, .lst (SqL.of hga) ka, .lst (SqL.of r1.2.1.1) ka, sa, sa, _, rfl, ?_⟩
    rw [eqv_refl' sa]
    refine iteF ⟨.ref gb, rfl, .ref a2, rfl, a2, _, 3, .ref rl2, rfl, rfl, SqL.of r2.1, rfl, .list db, .list db, .lst (SqL.of hgb) kb, .lst (SqL.of r2.2.1.1) kb, sb, sb, _, rfl, ?_⟩
    rw [eqv_refl' sb]
    refine iteF ?_
    refine ⟨.ref ga, rfl, .inl ⟨rfl, _, SqL.of hga⟩, ga, _, rfl, rfl, hga, ?_⟩
    have t10 : Same H5 (upd H9 ga (.lst [])) := same_at t9 nga
    have hFa := hFa.but hga (upd_but (x := .lst []))
    have hFb := hFb.but hga (upd_but (x := .lst []))
    have hgb : upd H9 ga (.lst []) gb = some (.lst (rv rs2)) := by rw [upd_ne (Ne.symm nab)]; exact hgb
    generalize upd H9 ga (.lst []) = H10 at t10 hFa hFb hgb ⊢
    clear t9 r1 r2 ka kb sa sb hga
    refine ⟨.ref gb, rfl, .inl ⟨rfl, _, SqL.of hgb⟩, Nat.zero_le _, fun t nt => ?_⟩
    have u1 := same_new nt (o := .tup [])
    generalize upd H10 t (.tup []) = H11 at u1 ⊢
    refine ⟨by show 3 ≤ sizeLine; decide, fun T' nT => ?_⟩
    have u2 := u1.trans (same_new nT (o := .tup [.str (Str.ofString "a"), .int 1, .ref t]))
    generalize upd H11 T' (.tup [.str (Str.ofString "a"), .int 1, .ref t]) = H12 at u2 ⊢
    have hgb := u2 _ _ hgb
    refine ⟨gb, _, _, rfl, rfl, hgb, by rw [rv_len]; exact small1000 (by have := p2.2.2.1; omega), ?_⟩
    have tF : Same H5 (upd H12 gb (.lst (rv rs2 ++ [.ref T']))) := same_at (t10.trans u2) ngb5
    have hFa := (hFa.same u2).but hgb (upd_but (x := .lst (rv rs2 ++ [.ref T'])))
    have hFb := (hFb.same u2).but hgb (upd_but (x := .lst (rv rs2 ++ [.ref T'])))
    generalize upd H12 gb (.lst (rv rs2 ++ [.ref T'])) = H13 at tF hFa hFb ⊢
    clear u1 u2 t10 hgb nt nT nga ngb5
    have P1 := p1.same tF
    have P2 := p2.same tF
    have HR := tF _ _ hR
    clear p1 p2 hR tF
    have inst : ∀ {H' : Hp} {p : Addr} {nm : Str} {h b : Int} {rs : List Rw}, FA C H' p nm h b rs → ∃ dx fs, H' p = some (.ins C dx fs) := fun ⟨dx, _, fs, _, h1, _⟩ => ⟨dx, fs, h1⟩
    refine ⟨2, rfl, by decide, by decide, for_range (lo := 0) (n := 2) (fun i σ H' => ∃ y10 y11 : Option V, σ = [some (.ref a), some (.ref a1), some (.ref a2), some (.ref R), some (.str z), some (.str lg), some (.ref ga), some (.ref gb), some (.ref pa), some (.ref pb), y10, y11, none] ∧ Same H13 H') ⟨none, none, rfl, Same.refl _⟩ ?_ ?_⟩
    · rintro i σ H' hi ⟨y10, y11, rfl, sm⟩
      refine ⟨.ref pa, rfl, .ref a1, rfl, .str z, rfl, .ref R, rfl, R, _, 0, .int g0, rfl, rfl, SqL.of (sm _ _ HR), rfl, g0, 1, rfl, rfl, .ref R, rfl, R, _, 1, .int g1, rfl, rfl, SqL.of (sm _ _ HR), rfl, pa, a1, z, nm1, g0 + 1, g1, h1, bk1, rl1, rs1, rfl, hFa.same sm, P1.same sm, by omega, by omega, by omega, fun K1 v1' => ⟨_, rfl, iteF ?_⟩⟩
      have sm := sm.trans v1'
      refine ⟨.ref pb, rfl, .ref a2, rfl, .str lg, rfl, .ref R, rfl, R, _, 2, .int g2, rfl, rfl, SqL.of (sm _ _ HR), rfl, g2, 1, rfl, rfl, .ref R, rfl, R, _, 3, .int g3, rfl, rfl, SqL.of (sm _ _ HR), rfl, pb, a2, lg, nm2, g2 + 1, g3, h2, bk2, rl2, rs2, rfl, hFb.same sm, P2.same sm, hLen, by omega, by omega, fun K2 v2' => ⟨_, rfl, iteF ?_⟩⟩
      have sm := sm.trans v2'
      refine ⟨.ref pa, rfl, pa, rfl, .str lg, rfl, .inr (inst (hFa.same sm)), pa, lg, nm1, 1, 0, h1, bk1, rs1, rfl, hFa.same sm, hLen, by decide, by decide, fun K3 v3' => ?_⟩
      have sm := sm.trans v3'
      refine ⟨.ref a1, rfl, .str lg, rfl, a1, lg, nm1, 1, 0, h1, bk1, rl1, rs1, rfl, P1.same sm, hLen, by decide, by decide, fun K4 v4' => ⟨_, _, rfl, ⟨rfl, .inr ⟨_, rfl⟩⟩, _, rfl, iteF ?_⟩⟩
      have sm := sm.trans v4'
      refine ⟨by show 3 ≤ sizeLine; decide, fun lw nlw => ?_⟩
      have hlw : (upd K4 lw (.lst [.int 1, .int 2, .int 3])) lw = some (.lst [.int 1, .int 2, .int 3]) := upd_same
      have sm := sm.trans (same_new nlw (o := .lst [.int 1, .int 2, .int 3]))
      generalize upd K4 lw (.lst [.int 1, .int 2, .int 3]) = K5 at hlw sm ⊢
      refine ⟨lw, rfl, ⟨_, SqL.of hlw⟩, for_list (K := K) (a := lw) (xs := [.int 1, .int 2, .int 3]) (fun j σ H' => ∃ y10 y11 : Option V, σ = [some (.ref a), some (.ref a1), some (.ref a2), some (.ref R), some (.str z), some (.str lg), some (.ref ga), some (.ref gb), some (.ref pa), some (.ref pb), y10, y11, none] ∧ Same K5 H') ⟨_, _, rfl, Same.refl _⟩ (fun j σ H' _ ⟨_, _, _, s'⟩ => SqL.of (s' _ _ hlw)) ?_ ?_⟩
      · rintro j x σ H'' hj ⟨y10, y11, rfl, s'⟩
        obtain ⟨k, rfl⟩ : ∃ k : Int, x = .int k := by
          have hm := List.mem_of_getElem? hj
          simp only [List.mem_cons, List.not_mem_nil, or_false] at hm
          rcases hm with rfl | rfl | rfl <;> exact ⟨_, rfl⟩
        have sN := sm.trans s'
        have Q1 := P1.same sN
        refine ⟨.ref a1, rfl, .ref a1, rfl, a1, _, 3, .ref rl1, rfl, rfl, SqL.of Q1.1, rfl, 38, rfl, rl1, _, rfl, SqL.of Q1.2.1.1, fun q1 nq1 => ?_⟩
        have ec : cutV (rv rs1) none (some 38) = rv (rs1.take 38) := (cutV_upto (rv rs1) 38).trans (by unfold rv; rw [List.map_take])
        rw [ec]
        have w1 := same_new nq1 (o := .lst (rv (rs1.take 38)))
        have hq1 : (upd H'' q1 (.lst (rv (rs1.take 38)))) q1 = some (.lst (rv (rs1.take 38))) := upd_same
        generalize upd H'' q1 (.lst (rv (rs1.take 38))) = K6 at w1 hq1 ⊢
        refine ⟨.int k, rfl, .ref R, rfl, 4, rfl, R, _, rfl, SqL.of (w1 _ _ (sN _ _ HR)), fun q2 nq2 => ?_⟩
        have ed : cutV ([g0, g1, g2, g3, g4, g5, g6, g7].map V.int) (some 4) none = [.int g4, .int g5, .int g6, .int g7] := cutV_from _ (a := 4) (by show 4 ≤ 8; decide)
        rw [ed]
        have w2 := w1.trans (same_new nq2 (o := .lst [.int g4, .int g5, .int g6, .int g7]))
        have hq1 := (same_new nq2 (o := .lst [.int g4, .int g5, .int g6, .int g7])) _ _ hq1
        have hq2 : (upd K6 q2 (.lst [.int g4, .int g5, .int g6, .int g7])) q2 = some (.lst [.int g4, .int g5, .int g6, .int g7]) := upd_same
        generalize upd K6 q2 (.lst [.int g4, .int g5, .int g6, .int g7]) = K7 at w2 hq1 hq2 ⊢
        refine ⟨q1, q2, k, g4, g5, g6, g7, rs1.take 38, rfl, ⟨hq1, fun r hr => (Q1.2.1.2 r (List.mem_of_mem_take hr)).kp (.of w2)⟩, by rw [List.length_take]; omega, hq2, by omega, by omega, fun K8 q3 out w3 ho hlo => ?_⟩
        exact ⟨a1, q3, nm1, h1, bk1, rl1, rs1, out, rfl, Q1.same (w2.trans w3), ho, by omega, fun K9 w4 => ⟨_, rfl, iteF ⟨_, _, rfl, s'.trans (w2.trans (w3.trans w4))⟩⟩⟩
      · rintro σ H'' ⟨y10, y11, rfl, s'⟩
        exact ⟨_, _, rfl, sm.trans s'⟩
    · rintro σ H' ⟨y10, y11, rfl, sm⟩
      refine ⟨.ref a1, rfl, .ref a1, rfl, a1, _, 3, .ref rl1, rfl, rfl, SqL.of (P1.same sm).1, rfl, a1, rl1, nm1, h1, bk1, rl1, rs1, rs1, rfl, P1.same sm, (P1.same sm).2.1, by have := P1.2.2.1; omega, fun K1 v1' => ⟨_, rfl, iteT ?_⟩⟩
      have sm := sm.trans v1'
      exact ⟨.ref pa, rfl, .ref a1, rfl, .str lg, rfl, .ref R, rfl, R, _, 0, .int g0, rfl, rfl, SqL.of (sm _ _ HR), rfl, g0, 1, rfl, rfl, .ref R, rfl, R, _, 1, .int g1, rfl, rfl, SqL.of (sm _ _ HR), rfl, pa, a1, lg, nm1, g0 + 1, g1, h1, bk1, rl1, rs1, rfl, hFa.same sm, P1.same sm, hLen, by omega, by omega, fun K2 _ => q K2⟩
end
end K24

set_option maxRecDepth 100000
set_option maxHeartbeats 4000000
namespace K24
open PySem PySem.Spec PyProof.Rows L2
theorem all_mk {l : PySem.W.OpenLaw} {w : World} {K : PySem.W.Frag} {h : Heap} {mg : Str → Option Value} {fa C CB CL CO f1 f2 f3 f4 f5 f6 f7 f8 f9 f10 f11 f12 f13 f14 f15 f16 f17 f18 f19 f20 f21 f22 : Addr} (X : K.In h) (G : h.Ns mainGlobals mg) (hfa : mg "law" = some (.ref fa))
    {tk0 : Tok}
    {od1 an1 od2 an2 od3 an3 od4 an4 od5 an5 od6 an6 od7 an7 od8 an8 od9 an9 od10 an10 od11 an11 od12 an12 od13 an13 od14 an14 od15 an15 od16 an16 od17 an17 od18 an18 od19 an19 od20 an20 od21 an21 od22 an22 : Option Addr} {sl1 sl2 sl3 sl4 sl5 sl6 sl7 sl8 sl9 sl10 sl11 sl12 sl13 sl14 sl15 sl16 sl17 sl18 sl19 sl20 sl21 sl22 : Array (Option Value)}
    {oc1 kV1 dc1 pm1 cd1 ct1 oc2 kV2 dc2 pm2 cd2 ct2 oc3 kV3 dc3 pm3 cd3 ct3 oc4 kV4 dc4 pm4 cd4 ct4 oc5 kV5 dc5 pm5 cd5 ct5 oc6 kV6 dc6 pm6 cd6 ct6 oc7 kV7 dc7 pm7 cd7 ct7 oc8 kV8 dc8 pm8 cd8 ct8 oc9 kV9 dc9 pm9 cd9 ct9 oc10 kV10 dc10 pm10 cd10 ct10 oc11 kV11 dc11 pm11 cd11 ct11 oc12 kV12 dc12 pm12 cd12 ct12 oc13 kV13 dc13 pm13 cd13 ct13 oc14 kV14 dc14 pm14 cd14 ct14 oc15 kV15 dc15 pm15 cd15 ct15 oc16 kV16 dc16 pm16 cd16 ct16 oc17 kV17 dc17 pm17 cd17 ct17 oc18 kV18 dc18 pm18 cd18 ct18 oc19 kV19 dc19 pm19 cd19 ct19 oc20 kV20 dc20 pm20 cd20 ct20 oc21 kV21 dc21 pm21 cd21 ct21 oc22 kV22 dc22 pm22 cd22 ct22 : Value}
    {nm_CB q_CB : Str} {N_CB : Addr} {bs_CB bm_CB : List Value} {sn_CB : List Str} {sub_CB : List Value} {ab_CB : Bool} {col_CB : Option Bool} {dd_CB : Option Addr} {m0_CB m1_CB m2_CB m3_CB m5_CB : Option Value}
    {fc TD : Addr} {odc anc odT : Option Addr} {slc slT : Array (Option Value)} {occ kVc dcc pmc cdc ctc : Value} {nT : Nat} {tka tkb : Tok}
    (c_BLANK : PySem.W.nsIn K mainGlobals "BLANK" = some (some (.str (Str.ofString " ") tk0)))
    (aC : PySem.W.nsIn K mainGlobals "Face" = some (some (.ref C)))
    (pgC : PySem.W.plainGet K C Str.empty = true)
    (hdC : PySem.W.hasDictIn K C = true)
    (poC : PySem.W.plainOver K C = true)
    (saC : PySem.W.findIn K (.ref C) "__setattr__" = some (some (.builtin "object.__setattr__")))
    (mkC : PySem.W.makesIn K C = true)
    (kcC : PySem.W.keepIn K (.ref C) = true)
    (nC_name : PySem.W.findIn K (.ref C) "name" = some none)
    (nC_height : PySem.W.findIn K (.ref C) "height" = some none)
    (nC_blank : PySem.W.findIn K (.ref C) "blank" = some none)
    (nC_rows : PySem.W.findIn K (.ref C) "_rows" = some none)
    (aCL : PySem.W.nsIn K mainGlobals "LaidError" = some (some (.ref CL)))
    (aCO : PySem.W.nsIn K mainGlobals "BadOutline" = some (some (.ref CO)))
    (aCB : PySem.W.nsIn K mainGlobals "BadFace" = some (some (.ref CB)))
    (x_CB : K.lookup CB = some (excClassObj nm_CB q_CB CB N_CB bs_CB bm_CB true sn_CB sub_CB ab_CB col_CB dd_CB m0_CB m1_CB m2_CB m3_CB m5_CB "ValueError.__new__"))
    (xb_CB : PySem.HandSPX.refsVE bm_CB = true)
    (sa_CB : PySem.W.findIn K (.ref CB) "__setattr__" = some (some (.builtin "object.__setattr__")))
    (xe_CB : PySem.W.subIn K (.ref CB) (.type "BaseException") = some true)
    (xt_CB : PySem.W.typeIn K (.ref CB) = some (.type "type"))
    (xk_CB : PySem.W.keepIn K (.ref CB) = true)
    (f_CB_sign : PySem.W.findIn K (.ref CB) "sign" = some none)
    (hg_CB : PySem.W.findIn K (.ref CB) "__getattribute__" = some (some (.builtin "BaseException.__getattribute__")))
    (hk_CB : PySem.W.findIn K (.ref CB) "__getattr__" = some none)
    (hd_CB : PySem.W.hasDictIn K CB = true)
    (ha_CB : PySem.W.findIn K (.ref CB) "__class__" = some (some (.builtin "object.__class__")))
    (hn_CB : PySem.W.specialIn K (.builtin "object.__class__") "__get__" = some (some (.builtin "getset_descriptor.__get__")))
    (ht_CB : PySem.W.takesIn K (.builtin "object.__class__") = some true)
    (hm_CB : PySem.W.mroIn K CB (.type "object") = some true)
    (ls_CB : PySem.W.subIn K (.ref CB) (.ref CB) = some true)
    (k1_CB : PySem.W.kitOne K (.ref CB) (.ref CL) = some true)
    (k2_CB : PySem.W.kitOne K (.ref CB) (.type "ValueError") = some true)
    (k3_CB : PySem.W.kitOne K (.ref CB) (.ref CO) = some false)
    (ic_ha : PySem.W.findIn K (.ref C) "__class__" = some (some (.builtin "object.__class__")))
    (ic_hn : PySem.W.specialIn K (.builtin "object.__class__") "__get__" = some (some (.builtin "getset_descriptor.__get__")))
    (ic_ht : PySem.W.takesIn K (.builtin "object.__class__") = some true)
    (ic_hm : PySem.W.mroIn K C (.type "object") = some true)
    (ic_me : PySem.W.kitOne K (.ref C) (.ref C) = some true)
    (w_a : PySem.W.findIn K (.ref C) "__call__" = some (some (.ref fc)))
    (w_i : PySem.W.isFn K (.ref fc) = true)
    (w_j : PySem.W.fnIn K fc = true)
    (w_k : PySem.W.keepIn K (.ref fc) = true)
    (w_l : K.lookup fc = some ⟨occ, odc, .func (PySem.W.fnOf "__call__" "Face.__call__" (defArgs sCall) (defBody sCall) (defScope sCall) (.ref TD) kVc dcc pmc anc cdc ctc), slc⟩)
    (w_c : PySem.W.codeIn K cdc "Face.__call__" = true)
    (w_T : K.lookup TD = some ⟨.type "tuple", odT, .seq #[.int 1 tka, .int 0 tkb] nT, slT⟩)
    (a1 : PySem.W.nsIn K mainGlobals "_law_cell" = some (some (.ref f1)))
    (l1 : K.lookup f1 = some ⟨oc1, od1, .func (PySem.W.fnOf "_law_cell" "_law_cell" (defArgs sCell) (defBody sCell) (defScope sCell) .none kV1 dc1 pm1 an1 cd1 ct1), sl1⟩)
    (c1 : PySem.W.codeIn K cd1 "_law_cell" = true)
    (k1 : PySem.W.keepIn K (.ref f1) = true)
    (a2 : PySem.W.nsIn K mainGlobals "_law_row" = some (some (.ref f2)))
    (l2 : K.lookup f2 = some ⟨oc2, od2, .func (PySem.W.fnOf "_law_row" "_law_row" (defArgs sRow) (defBody sRow) (defScope sRow) .none kV2 dc2 pm2 an2 cd2 ct2), sl2⟩)
    (c2 : PySem.W.codeIn K cd2 "_law_row" = true)
    (k2 : PySem.W.keepIn K (.ref f2) = true)
    (a3 : PySem.W.nsIn K mainGlobals "_law_same" = some (some (.ref f3)))
    (l3 : K.lookup f3 = some ⟨oc3, od3, .func (PySem.W.fnOf "_law_same" "_law_same" (defArgs sSame) (defBody sSame) (defScope sSame) .none kV3 dc3 pm3 an3 cd3 ct3), sl3⟩)
    (c3 : PySem.W.codeIn K cd3 "_law_same" = true)
    (k3 : PySem.W.keepIn K (.ref f3) = true)
    (a4 : PySem.W.nsIn K mainGlobals "_law_signs" = some (some (.ref f4)))
    (l4 : K.lookup f4 = some ⟨oc4, od4, .func (PySem.W.fnOf "_law_signs" "_law_signs" (defArgs sSigns) (defBody sSigns) (defScope sSigns) .none kV4 dc4 pm4 an4 cd4 ct4), sl4⟩)
    (c4 : PySem.W.codeIn K cd4 "_law_signs" = true)
    (k4 : PySem.W.keepIn K (.ref f4) = true)
    (a5 : PySem.W.nsIn K mainGlobals "_law_outline" = some (some (.ref f5)))
    (l5 : K.lookup f5 = some ⟨oc5, od5, .func (PySem.W.fnOf "_law_outline" "_law_outline" (defArgs sOutline) (defBody sOutline) (defScope sOutline) .none kV5 dc5 pm5 an5 cd5 ct5), sl5⟩)
    (c5 : PySem.W.codeIn K cd5 "_law_outline" = true)
    (k5 : PySem.W.keepIn K (.ref f5) = true)
    (a6 : PySem.W.nsIn K mainGlobals "_law_plan" = some (some (.ref f6)))
    (l6 : K.lookup f6 = some ⟨oc6, od6, .func (PySem.W.fnOf "_law_plan" "_law_plan" (defArgs sPlan) (defBody sPlan) (defScope sPlan) .none kV6 dc6 pm6 an6 cd6 ct6), sl6⟩)
    (c6 : PySem.W.codeIn K cd6 "_law_plan" = true)
    (k6 : PySem.W.keepIn K (.ref f6) = true)
    (a7 : PySem.W.nsIn K mainGlobals "_law_string" = some (some (.ref f7)))
    (l7 : K.lookup f7 = some ⟨oc7, od7, .func (PySem.W.fnOf "_law_string" "_law_string" (defArgs sString) (defBody sString) (defScope sString) .none kV7 dc7 pm7 an7 cd7 ct7), sl7⟩)
    (c7 : PySem.W.codeIn K cd7 "_law_string" = true)
    (k7 : PySem.W.keepIn K (.ref f7) = true)
    (a8 : PySem.W.nsIn K mainGlobals "_law_advance" = some (some (.ref f8)))
    (l8 : K.lookup f8 = some ⟨oc8, od8, .func (PySem.W.fnOf "_law_advance" "_law_advance" (defArgs sAdvance) (defBody sAdvance) (defScope sAdvance) .none kV8 dc8 pm8 an8 cd8 ct8), sl8⟩)
    (c8 : PySem.W.codeIn K cd8 "_law_advance" = true)
    (k8 : PySem.W.keepIn K (.ref f8) = true)
    (a9 : PySem.W.nsIn K mainGlobals "_law_drawn" = some (some (.ref f9)))
    (l9 : K.lookup f9 = some ⟨oc9, od9, .func (PySem.W.fnOf "_law_drawn" "_law_drawn" (defArgs sDrawn) (defBody sDrawn) (defScope sDrawn) .none kV9 dc9 pm9 an9 cd9 ct9), sl9⟩)
    (c9 : PySem.W.codeIn K cd9 "_law_drawn" = true)
    (k9 : PySem.W.keepIn K (.ref f9) = true)
    (a10 : PySem.W.nsIn K mainGlobals "_law_width" = some (some (.ref f10)))
    (l10 : K.lookup f10 = some ⟨oc10, od10, .func (PySem.W.fnOf "_law_width" "_law_width" (defArgs sWidth) (defBody sWidth) (defScope sWidth) .none kV10 dc10 pm10 an10 cd10 ct10), sl10⟩)
    (c10 : PySem.W.codeIn K cd10 "_law_width" = true)
    (k10 : PySem.W.keepIn K (.ref f10) = true)
    (a11 : PySem.W.nsIn K mainGlobals "_law_right" = some (some (.ref f11)))
    (l11 : K.lookup f11 = some ⟨oc11, od11, .func (PySem.W.fnOf "_law_right" "_law_right" (defArgs sRight) (defBody sRight) (defScope sRight) .none kV11 dc11 pm11 an11 cd11 ct11), sl11⟩)
    (c11 : PySem.W.codeIn K cd11 "_law_right" = true)
    (k11 : PySem.W.keepIn K (.ref f11) = true)
    (a12 : PySem.W.nsIn K mainGlobals "_law_spoilt" = some (some (.ref f12)))
    (l12 : K.lookup f12 = some ⟨oc12, od12, .func (PySem.W.fnOf "_law_spoilt" "_law_spoilt" (defArgs sSpoilt) (defBody sSpoilt) (defScope sSpoilt) .none kV12 dc12 pm12 an12 cd12 ct12), sl12⟩)
    (c12 : PySem.W.codeIn K cd12 "_law_spoilt" = true)
    (k12 : PySem.W.keepIn K (.ref f12) = true)
    (a13 : PySem.W.nsIn K mainGlobals "_law_first_bad" = some (some (.ref f13)))
    (l13 : K.lookup f13 = some ⟨oc13, od13, .func (PySem.W.fnOf "_law_first_bad" "_law_first_bad" (defArgs sFirst) (defBody sFirst) (defScope sFirst) .none kV13 dc13 pm13 an13 cd13 ct13), sl13⟩)
    (c13 : PySem.W.codeIn K cd13 "_law_first_bad" = true)
    (k13 : PySem.W.keepIn K (.ref f13) = true)
    (a14 : PySem.W.nsIn K mainGlobals "_law_refused" = some (some (.ref f14)))
    (l14 : K.lookup f14 = some ⟨oc14, od14, .func (PySem.W.fnOf "_law_refused" "_law_refused" (defArgs sRefused) (defBody sRefused) (defScope sRefused) .none kV14 dc14 pm14 an14 cd14 ct14), sl14⟩)
    (c14 : PySem.W.codeIn K cd14 "_law_refused" = true)
    (k14 : PySem.W.keepIn K (.ref f14) = true)
    (a15 : PySem.W.nsIn K mainGlobals "law" = some (some (.ref f15)))
    (l15 : K.lookup f15 = some ⟨oc15, od15, .func (PySem.W.fnOf "law" "law" (defArgs sLaw) (defBody sLaw) (defScope sLaw) .none kV15 dc15 pm15 an15 cd15 ct15), sl15⟩)
    (c15 : PySem.W.codeIn K cd15 "law" = true)
    (k15 : PySem.W.keepIn K (.ref f15) = true)
    (a16 : PySem.W.findIn K (.ref C) "__init__" = some (some (.ref f16)))
    (i16 : PySem.W.isFn K (.ref f16) = true)
    (l16 : K.lookup f16 = some ⟨oc16, od16, .func (PySem.W.fnOf "__init__" "Face.__init__" (defArgs sInit) (defBody sInit) (defScope sInit) .none kV16 dc16 pm16 an16 cd16 ct16), sl16⟩)
    (c16 : PySem.W.codeIn K cd16 "Face.__init__" = true)
    (k16 : PySem.W.keepIn K (.ref f16) = true)
    (a17 : PySem.W.findIn K (.ref C) "__contains__" = some (some (.ref f17)))
    (i17 : PySem.W.isFn K (.ref f17) = true)
    (x17 : PySem.W.typeIn K (.ref f17) = some (.type "function"))
    (l17 : K.lookup f17 = some ⟨oc17, od17, .func (PySem.W.fnOf "__contains__" "Face.__contains__" (defArgs sHas) (defBody sHas) (defScope sHas) .none kV17 dc17 pm17 an17 cd17 ct17), sl17⟩)
    (c17 : PySem.W.codeIn K cd17 "Face.__contains__" = true)
    (k17 : PySem.W.keepIn K (.ref f17) = true)
    (a18 : PySem.W.findIn K (.ref C) "__len__" = some (some (.ref f18)))
    (i18 : PySem.W.isFn K (.ref f18) = true)
    (x18 : PySem.W.typeIn K (.ref f18) = some (.type "function"))
    (l18 : K.lookup f18 = some ⟨oc18, od18, .func (PySem.W.fnOf "__len__" "Face.__len__" (defArgs sLen) (defBody sLen) (defScope sLen) .none kV18 dc18 pm18 an18 cd18 ct18), sl18⟩)
    (c18 : PySem.W.codeIn K cd18 "Face.__len__" = true)
    (k18 : PySem.W.keepIn K (.ref f18) = true)
    (a19 : PySem.W.findIn K (.ref C) "__iter__" = some (some (.ref f19)))
    (i19 : PySem.W.isFn K (.ref f19) = true)
    (l19 : K.lookup f19 = some ⟨oc19, od19, .func (PySem.W.fnOf "__iter__" "Face.__iter__" (defArgs sIter) (defBody sIter) (defScope sIter) .none kV19 dc19 pm19 an19 cd19 ct19), sl19⟩)
    (c19 : PySem.W.codeIn K cd19 "Face.__iter__" = true)
    (k19 : PySem.W.keepIn K (.ref f19) = true)
    (a20 : PySem.W.findIn K (.ref C) "advance" = some (some (.ref f20)))
    (i20 : PySem.W.isFn K (.ref f20) = true)
    (l20 : K.lookup f20 = some ⟨oc20, od20, .func (PySem.W.fnOf "advance" "Face.advance" (defArgs sAdv) (defBody sAdv) (defScope sAdv) .none kV20 dc20 pm20 an20 cd20 ct20), sl20⟩)
    (c20 : PySem.W.codeIn K cd20 "Face.advance" = true)
    (k20 : PySem.W.keepIn K (.ref f20) = true)
    (a21 : PySem.W.findIn K (.ref C) "outline" = some (some (.ref f21)))
    (i21 : PySem.W.isFn K (.ref f21) = true)
    (l21 : K.lookup f21 = some ⟨oc21, od21, .func (PySem.W.fnOf "outline" "Face.outline" (defArgs sOut) (defBody sOut) (defScope sOut) .none kV21 dc21 pm21 an21 cd21 ct21), sl21⟩)
    (c21 : PySem.W.codeIn K cd21 "Face.outline" = true)
    (k21 : PySem.W.keepIn K (.ref f21) = true)
    (a22 : PySem.W.findIn K (.ref CB) "__init__" = some (some (.ref f22)))
    (l22 : K.lookup f22 = some ⟨oc22, od22, .func (PySem.W.fnOf "__init__" "BadFace.__init__" (defArgs sBFInit) (defBody sBFInit) (defScope sBFInit) .none kV22 dc22 pm22 an22 cd22 ct22), sl22⟩)
    (c22 : PySem.W.codeIn K cd22 "BadFace.__init__" = true)
    (k22 : PySem.W.keepIn K (.ref f22) = true)
    (t22 : PySem.W.typeIn K (.ref f22) = some (.type "function"))
    (z0 : PySem.W.nsIn K mainGlobals "len" = some none)
    (z1 : PySem.W.nsIn K mainGlobals "int" = some none)
    (z2 : PySem.W.nsIn K mainGlobals "str" = some none)
    (z3 : PySem.W.nsIn K mainGlobals "bool" = some none)
    (z4 : PySem.W.nsIn K mainGlobals "tuple" = some none)
    (z5 : PySem.W.nsIn K mainGlobals "list" = some none)
    (z6 : PySem.W.nsIn K mainGlobals "range" = some none)
    (z7 : PySem.W.nsIn K mainGlobals "isinstance" = some none)
    (z8 : PySem.W.nsIn K mainGlobals "iter" = some none)
    (z9 : PySem.W.nsIn K mainGlobals "sum" = some none)
    (z10 : PySem.W.nsIn K mainGlobals "ValueError" = some none) :
    ∃ fd : FuncData, (∀ (s : Shared) (v : Value), BindsTo s fd ⟨[v], []⟩ [("_law_script", v)]) ∧ ∀ base : Heap, K.In base → base.Ns mainGlobals mg → FnOk l.prog w K mg base CX0 6 fa fd ["_law_script"] (spLaw K) := by
  have e := hfa.symm.trans (PySem.W.mg_of X G a15); cases e
  have B : Blt mg := ⟨PySem.W.mg_none_of X G z0, PySem.W.mg_none_of X G z1, PySem.W.mg_none_of X G z2, PySem.W.mg_none_of X G z3, PySem.W.mg_none_of X G z4, PySem.W.mg_none_of X G z5, PySem.W.mg_none_of X G z6, PySem.W.mg_none_of X G z7, PySem.W.mg_none_of X G z8, PySem.W.mg_none_of X G z9, PySem.W.mg_none_of X G z10⟩
  have F1 := fun_mk (st := sCell) l1 c1 k1
  have F2 := fun_mk (st := sRow) l2 c2 k2
  have F3 := fun_mk (st := sSame) l3 c3 k3
  have F4 := fun_mk (st := sSigns) l4 c4 k4
  have F5 := fun_mk (st := sOutline) l5 c5 k5
  have F6 := fun_mk (st := sPlan) l6 c6 k6
  have F7 := fun_mk (st := sString) l7 c7 k7
  have F8 := fun_mk (st := sAdvance) l8 c8 k8
  have F9 := fun_mk (st := sDrawn) l9 c9 k9
  have F10 := fun_mk (st := sWidth) l10 c10 k10
  have F11 := fun_mk (st := sRight) l11 c11 k11
  have F12 := fun_mk (st := sSpoilt) l12 c12 k12
  have F13 := fun_mk (st := sFirst) l13 c13 k13
  have F14 := fun_mk (st := sRefused) l14 c14 k14
  have F15 := fun_mk (st := sLaw) l15 c15 k15
  have F16 := fun_mk (st := sInit) l16 c16 k16
  have F17 := fun_mk (st := sHas) l17 c17 k17
  have F18 := fun_mk (st := sLen) l18 c18 k18
  have F19 := fun_mk (st := sIter) l19 c19 k19
  have F20 := fun_mk (st := sAdv) l20 c20 k20
  have F21 := fun_mk (st := sOut) l21 c21 k21
  have F22 := fun_mk (st := sBFInit) l22 c22 k22
  have b1 := F1.binds (ps := ["_law_script", "_law_k"]) fun _ _ _ _ _ _ us hl => match us, hl with | [_, _], _ => rfl
  have b2 := F2.binds (ps := ["_law_cell_here", "_law_limits"]) fun _ _ _ _ _ _ us hl => match us, hl with | [_, _], _ => rfl
  have b3 := F3.binds (ps := ["_law_one", "_law_two"]) fun _ _ _ _ _ _ us hl => match us, hl with | [_, _], _ => rfl
  have b4 := F4.binds (ps := []) fun _ _ _ _ _ _ us hl => match us, hl with | [], _ => rfl
  have b5 := F5.binds (ps := ["_law_many", "_law_pick"]) fun _ _ _ _ _ _ us hl => match us, hl with | [_, _], _ => rfl
  have b6 := F6.binds (ps := ["_law_cell_here"]) fun _ _ _ _ _ _ us hl => match us, hl with | [_], _ => rfl
  have b7 := F7.binds (ps := ["_law_cell_here", "_law_rows"]) fun _ _ _ _ _ _ us hl => match us, hl with | [_, _], _ => rfl
  have b8 := F8.binds (ps := ["_law_plan_here", "_law_sign"]) fun _ _ _ _ _ _ us hl => match us, hl with | [_, _], _ => rfl
  have b9 := F9.binds (ps := ["_law_plan_here", "_law_sign"]) fun _ _ _ _ _ _ us hl => match us, hl with | [_, _], _ => rfl
  have b10 := F10.binds (ps := ["_law_plan_here", "_law_text", "_law_scale", "_law_extra"]) fun _ _ _ _ _ _ us hl => match us, hl with | [_, _, _, _], _ => rfl
  have b11 := F11.binds (ps := ["_law_face", "_law_plan_here", "_law_text", "_law_scale", "_law_extra"]) fun _ _ _ _ _ _ us hl => match us, hl with | [_, _, _, _, _], _ => rfl
  have b12 := F12.binds (ps := ["_law_rows", "_law_way", "_law_draws"]) fun _ _ _ _ _ _ us hl => match us, hl with | [_, _, _], _ => rfl
  have b13 := F13.binds (ps := ["_law_rows"]) fun _ _ _ _ _ _ us hl => match us, hl with | [_], _ => rfl
  have b14 := F14.binds (ps := ["_law_plan_here", "_law_rows"]) fun _ _ _ _ _ _ us hl => match us, hl with | [_, _], _ => rfl
  have b16 := F16.binds (ps := ["self", "name", "height", "blank", "rows"]) fun _ _ _ _ _ _ us hl => match us, hl with | [_, _, _, _, _], _ => rfl
  have b17 := F17.binds (ps := ["self", "sign"]) fun _ _ _ _ _ _ us hl => match us, hl with | [_, _], _ => rfl
  have b18 := F18.binds (ps := ["self"]) fun _ _ _ _ _ _ us hl => match us, hl with | [_], _ => rfl
  have b19 := F19.binds (ps := ["self"]) fun _ _ _ _ _ _ us hl => match us, hl with | [_], _ => rfl
  have b20 := F20.binds (ps := ["self", "sign"]) fun _ _ _ _ _ _ us hl => match us, hl with | [_, _], _ => rfl
  have b21 := F21.binds (ps := ["self", "sign"]) fun _ _ _ _ _ _ us hl => match us, hl with | [_, _], _ => rfl
  have b22 := F22.binds (ps := ["self", "sign"]) fun _ _ _ _ _ _ us hl => match us, hl with | [_, _], _ => rfl
  have Z : Cst mg tk0 := PySem.W.mg_of X G c_BLANK
  have T : Fce K mg C := ⟨⟨pgC, hdC, poC, saC⟩, nC_name, nC_height, nC_blank, nC_rows, PySem.W.mg_of X G aC⟩
  have NB : BadF K mg CB f22 _ := ⟨PySem.W.mg_of X G aCB, ⟨⟨nm_CB, q_CB, N_CB, bs_CB, bm_CB, sn_CB, sub_CB, ab_CB, col_CB, dd_CB, m0_CB, m1_CB, m2_CB, m3_CB, m5_CB, x_CB, xb_CB⟩, sa_CB, xe_CB, xt_CB, xk_CB⟩, f_CB_sign, a22, t22, F22, b22⟩
  have ER : Errs K mg CB CL CO := ⟨PySem.W.mg_of X G aCL, PySem.W.mg_of X G aCO, ⟨hg_CB, hk_CB, xe_CB, hd_CB, ha_CB, hn_CB, ht_CB, hm_CB⟩, PySem.W.exm_ref xe_CB hd_CB xt_CB ls_CB, k1_CB, k2_CB, k3_CB⟩
  have FC : CallD K fc _ := ⟨⟨occ, odc, .ref TD, kVc, dcc, pmc, anc, cdc, ctc, slc, rfl, w_l, w_c, .inr ⟨(fun z => nomatch z), TD, _, [.int 1 tka, .int 0 tkb], nT, rfl, w_T, rfl, .cons ⟨tka, rfl⟩ (.cons ⟨tkb, rfl⟩ .nil)⟩, .inl rfl⟩, w_k⟩
  have O : ∀ base : Heap, Ops l.prog w K mg base C f19 f18 f17 f20 f21 fc f3 f4 f8 f9 f10 _ _ _ _ _ _ _ _ _ _ _ := fun base => ⟨⟨⟨pgC, hdC, poC, saC⟩, ic_ha, ic_hn, ic_ht, ic_hm, ic_me⟩, ⟨a19, i19⟩, ok_iter B T F19, b19, ⟨a18, x18⟩, ok_len B T F18, b18, ⟨a17, x17⟩, ok_has T F17, b17, ⟨a20, i20, k20⟩, ok_adv Z T F20, b20, ⟨a21, i21, k21⟩, ok_out T F21, b21, ⟨w_a, w_i, w_j⟩, FC, ok_callf B Z T FC F20 b20 ⟨a20, i20, k20⟩, F3, b3, PySem.W.mg_of X G a3, F4, b4, PySem.W.mg_of X G a4, F8, b8, PySem.W.mg_of X G a8, F9, b9, PySem.W.mg_of X G a9, F10, b10, PySem.W.mg_of X G a10⟩
  exact ⟨PySem.W.fnOf "law" "law" (defArgs sLaw) (defBody sLaw) (defScope sLaw) .none kV15 dc15 pm15 an15 cd15 ct15, fun s v => .of_eq rfl, fun base _ _ =>
    ok_law B Z T ⟨mkC, a16, i16, kcC⟩ NB ER F15 (O base) F16 b16 F1 b1 (PySem.W.mg_of X G a1) F2 b2 (PySem.W.mg_of X G a2) F5 b5 (PySem.W.mg_of X G a5) F6 b6 (PySem.W.mg_of X G a6) F7 b7 (PySem.W.mg_of X G a7) F12 b12 (PySem.W.mg_of X G a12) F13 b13 (PySem.W.mg_of X G a13) F14 b14 (PySem.W.mg_of X G a14) F11 b11 (PySem.W.mg_of X G a11)⟩
end K24
open PySem PySem.W PyProof.Rows
set_option maxRecDepth 100000 in
set_option maxHeartbeats 0 in
theorem PySem.Challenge.cw_laidforall_k24_faces_holds : PySem.Challenge.rw_laidforall_k24_faces.Holds := by
  w_on; o_law; k_head; (case hw => w_witness2)
  k_fill
  refine L2.walk_of (l := PySem.Challenge.rw_laidforall_k24_faces) (n := 63) (k := 6) (x := "_law_script") (CX := fun _ => L2.CX0) (sp := fun w => K24.spLaw _) rfl (by decide) rfl ⟨rfl, by decide, by decide⟩ (fun w h Y => PySem.W.kIn_of Y) ?F (fun _ _ a ns hl _ hS => ⟨a, ns, rfl, hS, hl, fun _ => rfl⟩) (fun _ _ _ _ _ h => h)
  case F =>
    intro w mg fa h KX G hmg
    refine' K24.all_mk KX G hmg ?zz_c_BLANK ?zz_aC ?zz_pgC ?zz_hdC ?zz_poC ?zz_saC ?zz_mkC ?zz_kcC ?zz_nC_name ?zz_nC_height ?zz_nC_blank ?zz_nC_rows ?zz_aCL ?zz_aCO ?zz_aCB ?zz_x_CB ?zz_xb_CB ?zz_sa_CB ?zz_xe_CB ?zz_xt_CB ?zz_xk_CB ?zz_f_CB_sign ?zz_hg_CB ?zz_hk_CB ?zz_hd_CB ?zz_ha_CB ?zz_hn_CB ?zz_ht_CB ?zz_hm_CB ?zz_ls_CB ?zz_k1_CB ?zz_k2_CB ?zz_k3_CB ?zz_ic_ha ?zz_ic_hn ?zz_ic_ht ?zz_ic_hm ?zz_ic_me ?zz_w_a ?zz_w_i ?zz_w_j ?zz_w_k ?zz_w_l ?zz_w_c ?zz_w_T ?zz_a1 ?zz_l1 ?zz_c1 ?zz_k1 ?zz_a2 ?zz_l2 ?zz_c2 ?zz_k2 ?zz_a3 ?zz_l3 ?zz_c3 ?zz_k3 ?zz_a4 ?zz_l4 ?zz_c4 ?zz_k4 ?zz_a5 ?zz_l5 ?zz_c5 ?zz_k5 ?zz_a6 ?zz_l6 ?zz_c6 ?zz_k6 ?zz_a7 ?zz_l7 ?zz_c7 ?zz_k7 ?zz_a8 ?zz_l8 ?zz_c8 ?zz_k8 ?zz_a9 ?zz_l9 ?zz_c9 ?zz_k9 ?zz_a10 ?zz_l10 ?zz_c10 ?zz_k10 ?zz_a11 ?zz_l11 ?zz_c11 ?zz_k11 ?zz_a12 ?zz_l12 ?zz_c12 ?zz_k12 ?zz_a13 ?zz_l13 ?zz_c13 ?zz_k13 ?zz_a14 ?zz_l14 ?zz_c14 ?zz_k14 ?zz_a15 ?zz_l15 ?zz_c15 ?zz_k15 ?zz_a16 ?zz_i16 ?zz_l16 ?zz_c16 ?zz_k16 ?zz_a17 ?zz_i17 ?zz_x17 ?zz_l17 ?zz_c17 ?zz_k17 ?zz_a18 ?zz_i18 ?zz_x18 ?zz_l18 ?zz_c18 ?zz_k18 ?zz_a19 ?zz_i19 ?zz_l19 ?zz_c19 ?zz_k19 ?zz_a20 ?zz_i20 ?zz_l20 ?zz_c20 ?zz_k20 ?zz_a21 ?zz_i21 ?zz_l21 ?zz_c21 ?zz_k21 ?zz_a22 ?zz_l22 ?zz_c22 ?zz_k22 ?zz_t22 ?zz_z0 ?zz_z1 ?zz_z2 ?zz_z3 ?zz_z4 ?zz_z5 ?zz_z6 ?zz_z7 ?zz_z8 ?zz_z9 ?zz_z10
    (case zz_c_BLANK => first | k_is | rfl)
    (case zz_aC => first | k_is | rfl)
    (case zz_pgC => first | k_is | rfl)
    (case zz_hdC => first | k_is | rfl)
    (case zz_poC => first | k_is | rfl)
    (case zz_saC => first | k_is | rfl)
    (case zz_mkC => first | k_is | rfl)
    (case zz_kcC => first | k_is | rfl)
    (case zz_nC_name => first | k_is | rfl)
    (case zz_nC_height => first | k_is | rfl)
    (case zz_nC_blank => first | k_is | rfl)
    (case zz_nC_rows => first | k_is | rfl)
    (case zz_aCL => first | k_is | rfl)
    (case zz_aCO => first | k_is | rfl)
    (case zz_aCB => first | k_is | rfl)
    (case zz_x_CB => first | k_is | rfl)
    (case zz_xb_CB => decide +kernel)
    (case zz_sa_CB => first | k_is | rfl)
    (case zz_xe_CB => first | k_is | rfl)
    (case zz_xt_CB => first | k_is | rfl)
    (case zz_xk_CB => first | k_is | rfl)
    (case zz_f_CB_sign => first | k_is | rfl)
    (case zz_hg_CB => first | k_is | rfl)
    (case zz_hk_CB => first | k_is | rfl)
    (case zz_hd_CB => first | k_is | rfl)
    (case zz_ha_CB => first | k_is | rfl)
    (case zz_hn_CB => first | k_is | rfl)
    (case zz_ht_CB => first | k_is | rfl)
    (case zz_hm_CB => first | k_is | rfl)
    (case zz_ls_CB => first | k_is | rfl)
    (case zz_k1_CB => first | k_is | rfl)
    (case zz_k2_CB => first | k_is | rfl)
    (case zz_k3_CB => first | k_is | rfl)
    (case zz_ic_ha => first | k_is | rfl)
    (case zz_ic_hn => first | k_is | rfl)
    (case zz_ic_ht => first | k_is | rfl)
    (case zz_ic_hm => first | k_is | rfl)
    (case zz_ic_me => first | k_is | rfl)
    (case zz_w_a => first | k_is | rfl)
    (case zz_w_i => first | k_is | rfl)
    (case zz_w_j => first | k_is | rfl)
    (case zz_w_k => first | k_is | rfl)
    (case zz_w_l => first | k_is | rfl)
    (case zz_w_c => first | k_is | rfl)
    (case zz_w_T => first | k_is | rfl)
    (case zz_a1 => first | k_is | rfl)
    (case zz_l1 => first | k_is | rfl)
    (case zz_c1 => first | k_is | rfl)
    (case zz_k1 => first | k_is | rfl)
    (case zz_a2 => first | k_is | rfl)
    (case zz_l2 => first | k_is | rfl)
    (case zz_c2 => first | k_is | rfl)
    (case zz_k2 => first | k_is | rfl)
    (case zz_a3 => first | k_is | rfl)
    (case zz_l3 => first | k_is | rfl)
    (case zz_c3 => first | k_is | rfl)
    (case zz_k3 => first | k_is | rfl)
    (case zz_a4 => first | k_is | rfl)
    (case zz_l4 => first | k_is | rfl)
    (case zz_c4 => first | k_is | rfl)
    (case zz_k4 => first | k_is | rfl)
    (case zz_a5 => first | k_is | rfl)
    (case zz_l5 => first | k_is | rfl)
    (case zz_c5 => first | k_is | rfl)
    (case zz_k5 => first | k_is | rfl)
    (case zz_a6 => first | k_is | rfl)
    (case zz_l6 => first | k_is | rfl)
    (case zz_c6 => first | k_is | rfl)
    (case zz_k6 => first | k_is | rfl)
    (case zz_a7 => first | k_is | rfl)
    (case zz_l7 => first | k_is | rfl)
    (case zz_c7 => first | k_is | rfl)
    (case zz_k7 => first | k_is | rfl)
    (case zz_a8 => first | k_is | rfl)
    (case zz_l8 => first | k_is | rfl)
    (case zz_c8 => first | k_is | rfl)
    (case zz_k8 => first | k_is | rfl)
    (case zz_a9 => first | k_is | rfl)
    (case zz_l9 => first | k_is | rfl)
    (case zz_c9 => first | k_is | rfl)
    (case zz_k9 => first | k_is | rfl)
    (case zz_a10 => first | k_is | rfl)
    (case zz_l10 => first | k_is | rfl)
    (case zz_c10 => first | k_is | rfl)
    (case zz_k10 => first | k_is | rfl)
    (case zz_a11 => first | k_is | rfl)
    (case zz_l11 => first | k_is | rfl)
    (case zz_c11 => first | k_is | rfl)
    (case zz_k11 => first | k_is | rfl)
    (case zz_a12 => first | k_is | rfl)
    (case zz_l12 => first | k_is | rfl)
    (case zz_c12 => first | k_is | rfl)
    (case zz_k12 => first | k_is | rfl)
    (case zz_a13 => first | k_is | rfl)
    (case zz_l13 => first | k_is | rfl)
    (case zz_c13 => first | k_is | rfl)
    (case zz_k13 => first | k_is | rfl)
    (case zz_a14 => first | k_is | rfl)
    (case zz_l14 => first | k_is | rfl)
    (case zz_c14 => first | k_is | rfl)
    (case zz_k14 => first | k_is | rfl)
    (case zz_a15 => first | k_is | rfl)
    (case zz_l15 => first | k_is | rfl)
    (case zz_c15 => first | k_is | rfl)
    (case zz_k15 => first | k_is | rfl)
    (case zz_a16 => first | k_is | rfl)
    (case zz_i16 => first | k_is | rfl)
    (case zz_l16 => first | k_is | rfl)
    (case zz_c16 => first | k_is | rfl)
    (case zz_k16 => first | k_is | rfl)
    (case zz_a17 => first | k_is | rfl)
    (case zz_i17 => first | k_is | rfl)
    (case zz_x17 => first | k_is | rfl)
    (case zz_l17 => first | k_is | rfl)
    (case zz_c17 => first | k_is | rfl)
    (case zz_k17 => first | k_is | rfl)
    (case zz_a18 => first | k_is | rfl)
    (case zz_i18 => first | k_is | rfl)
    (case zz_x18 => first | k_is | rfl)
    (case zz_l18 => first | k_is | rfl)
    (case zz_c18 => first | k_is | rfl)
    (case zz_k18 => first | k_is | rfl)
    (case zz_a19 => first | k_is | rfl)
    (case zz_i19 => first | k_is | rfl)
    (case zz_l19 => first | k_is | rfl)
    (case zz_c19 => first | k_is | rfl)
    (case zz_k19 => first | k_is | rfl)
    (case zz_a20 => first | k_is | rfl)
    (case zz_i20 => first | k_is | rfl)
    (case zz_l20 => first | k_is | rfl)
    (case zz_c20 => first | k_is | rfl)
    (case zz_k20 => first | k_is | rfl)
    (case zz_a21 => first | k_is | rfl)
    (case zz_i21 => first | k_is | rfl)
    (case zz_l21 => first | k_is | rfl)
    (case zz_c21 => first | k_is | rfl)
    (case zz_k21 => first | k_is | rfl)
    (case zz_a22 => first | k_is | rfl)
    (case zz_l22 => first | k_is | rfl)
    (case zz_c22 => first | k_is | rfl)
    (case zz_k22 => first | k_is | rfl)
    (case zz_t22 => first | k_is | rfl)
    (case zz_z0 => first | k_is | rfl)
    (case zz_z1 => first | k_is | rfl)
    (case zz_z2 => first | k_is | rfl)
    (case zz_z3 => first | k_is | rfl)
    (case zz_z4 => first | k_is | rfl)
    (case zz_z5 => first | k_is | rfl)
    (case zz_z6 => first | k_is | rfl)
    (case zz_z7 => first | k_is | rfl)
    (case zz_z8 => first | k_is | rfl)
    (case zz_z9 => first | k_is | rfl)
    (case zz_z10 => first | k_is | rfl)

